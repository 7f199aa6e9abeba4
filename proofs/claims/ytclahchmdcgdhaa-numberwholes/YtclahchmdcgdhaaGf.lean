import Derived.Test.YtclahchmdcgdhaaGe
namespace Go.Proofs.Ytclahchmdcgdhaa
open Go.RowKit FM
attribute [local go_sem] frombits_run bits_run neg_run

/-- What Length answers. -/
def lnV (x : Nat) : Int := if isN x = true ∨ ng x = true then 0 else ((min (wh (sz x)) 9007199254740991 : Nat) : Int)
theorem refLength_any (x : Nat) (hx : x < 2 ^ 64) (w : World) : Calls Try.prog 22 #[.float .f64 x] w fun e w' => e = .returned (.int .i64 (lnV x)) ∧ w' = w := by
  have HN := fun w => nan_any x hx w
  have HS := fun w => size_any x hx w
  have HG := fun w => negative_any x hx w
  cases hn : isN x
  · rw [hn] at HN
    cases hg : ng x
    · rw [hg] at HG
      have hI : sz x ≤ INF := by simpa [isN] using hn
      have HW := fun w => whole_all x hx hI w
      have hinf : sz x = INF → 18446744073709551616 ≤ wh (sz x) := fun h => by rw [h]; exact inf_wh
      have HV : Hid (lnV x = ((min (wh (sz x)) 9007199254740991 : Nat) : Int)) := ⟨by unfold lnV; rw [if_neg (by rw [hn, hg]; simp)]⟩
      have hi : Hid (sz x = INF → 18446744073709551616 ≤ wh (sz x)) := ⟨hinf⟩
      clear hinf
      generalize wh (sz x) = V at *
      go_enter Try.func22, Try.ntmps22
      go_wp2_with fail
      refine (HN _).mono ?_
      rintro e w' ⟨rfl, rfl⟩
      go_wp2_with fail
      refine (HG _).mono ?_
      rintro e w' ⟨rfl, rfl⟩
      go_wp2_with fail
      refine (HW _).mono ?_
      rintro e w' ⟨n, ok, rfl, hk1, hk2, hn64, rfl⟩
      cases ok
      · have hb := (hk2 rfl).1
        have HB : Hid (18446744073709551616 ≤ V) := ⟨hb⟩
        clear hk1 hk2 hb
        go_wp2
        go_ret
        exact ⟨ri (by rw [HV.it]; have := HB.it; omega), rfl⟩
      · have hnV : n = V := hk1 rfl
        subst hnV
        clear hk1 hk2
        by_cases hb : 9007199254740991 < n
        · have hb' : decide ((9007199254740991 : Int) < (n : Int)) = true := by simp; omega
          have HB : Hid (9007199254740991 < n) := ⟨hb⟩
          clear hb
          go_wp2
          go_ret
          exact ⟨ri (by rw [HV.it]; have := HB.it; omega), rfl⟩
        · have hb' : decide ((9007199254740991 : Int) < (n : Int)) = false := by simp; omega
          have hi' : ((sz x : Int) == 9218868437227405312) = false := by
            simp only [beq_eq_false_iff_ne]
            intro h
            have := hi.it (by unfold INF; omega)
            omega
          have hw : wrap64 (n : Int) = (n : Int) := by unfold wrap64; omega
          have HB : Hid (¬ 9007199254740991 < n) := ⟨hb⟩
          clear hb
          go_wp2_with fail
          refine (HS _).mono ?_
          rintro e w' ⟨rfl, rfl⟩
          go_wp2
          go_ret
          exact ⟨ri (by rw [HV.it]; have := HB.it; omega), rfl⟩
    · rw [hg] at HG
      have hV : lnV x = 0 := by unfold lnV; rw [if_pos (.inr hg)]
      rw [hV]
      clear hV
      go_enter Try.func22, Try.ntmps22
      go_wp2_with fail
      refine (HN _).mono ?_
      rintro e w' ⟨rfl, rfl⟩
      go_wp2_with fail
      refine (HG _).mono ?_
      rintro e w' ⟨rfl, rfl⟩
      go_wp2
      go_ret
      exact ⟨rfl, rfl⟩
  · rw [hn] at HN
    have hV : lnV x = 0 := by unfold lnV; rw [if_pos (.inl hn)]
    rw [hV]
    clear hV
    go_enter Try.func22, Try.ntmps22
    go_wp2_with fail
    refine (HN _).mono ?_
    rintro e w' ⟨rfl, rfl⟩
    go_wp2
    go_ret
    exact ⟨rfl, rfl⟩
theorem ord_lt {x y : Nat} (h : (FloatKind.f64.format.order x y == some .lt) = true) : FloatKind.f64.format.order x y = some .lt := by simpa using h
theorem run_max_lt {x y : Nat} (h : FloatKind.f64.format.order x y = some .lt) (ts : Array TypeId) (t : TypeId) (w : World) : (Builtin.max_ ts t #[.float .f64 x, .float .f64 y]).run Try.prog w = .ok (.float .f64 y) w := by
  simp [Builtin.max_, Builtin.max2, h]
theorem run_max_gt {x y : Nat} (h : FloatKind.f64.format.order x y = some .gt) (ts : Array TypeId) (t : TypeId) (w : World) : (Builtin.max_ ts t #[.float .f64 x, .float .f64 y]).run Try.prog w = .ok (.float .f64 x) w := by
  simp [Builtin.max_, Builtin.max2, h]
theorem run_min_lt {x y : Nat} (h : FloatKind.f64.format.order x y = some .lt) (ts : Array TypeId) (t : TypeId) (w : World) : (Builtin.min_ ts t #[.float .f64 x, .float .f64 y]).run Try.prog w = .ok (.float .f64 x) w := by
  simp [Builtin.min_, Builtin.min2, h]
theorem run_min_gt {x y : Nat} (h : FloatKind.f64.format.order x y = some .gt) (ts : Array TypeId) (t : TypeId) (w : World) : (Builtin.min_ ts t #[.float .f64 x, .float .f64 y]).run Try.prog w = .ok (.float .f64 y) w := by
  simp [Builtin.min_, Builtin.min2, h]
theorem run_max_00 (ts : Array TypeId) (t : TypeId) (w : World) : (Builtin.max_ ts t #[.float .f64 0, .float .f64 0]).run Try.prog w = .ok (.float .f64 0) w := by
  have h : FloatKind.f64.format.order 0 0 = some .eq := by decide
  simp [Builtin.max_, Builtin.max2, h]
theorem run_min_same {x : Nat} (h : FloatKind.f64.format.order x x = some .eq) (ts : Array TypeId) (t : TypeId) (w : World) : (Builtin.min_ ts t #[.float .f64 x, .float .f64 x]).run Try.prog w = .ok (.float .f64 x) w := by
  simp [Builtin.min_, Builtin.min2, h]
theorem length_any (x : Nat) (hx : x < 2 ^ 64) (w : World) : Calls Try.prog 21 #[.float .f64 x] w fun e w' => e = .returned (.int .i64 (lnV x)) ∧ w' = w := by
  have HI := fun w => integer_any x hx w
  have h0 : floatToIntVal .f64 0 .i64 = some 0 := by decide +kernel
  have hcv0 := fun W => run_convert_float_int (P := Try.prog) W 23 2 .f64 .i64 0 0 (by rw [Try.underlying23]; rfl) Try.underlying2 h0
  have hC : floatToIntVal .f64 4845873199050653695 .i64 = some 9007199254740991 := by decide +kernel
  have hcvC := fun W => run_convert_float_int (P := Try.prog) W 23 2 .f64 .i64 4845873199050653695 9007199254740991 (by rw [Try.underlying23]; rfl) Try.underlying2 hC
  have hmm := run_max_00
  have hmn := fun ts t w => run_min_lt (x := 0) (y := 4845873199050653695) (by decide) ts t w
  have hCC : FloatKind.f64.format.order 4845873199050653695 4845873199050653695 = some .eq := by decide
  have hmc := fun ts t w => run_min_same hCC ts t w
  by_cases hz : isN x = true ∨ wh (sz x) = 0
  · have hV : lnV x = 0 := by
      unfold lnV
      split
      · rfl
      · rename_i h
        rcases hz with q | q
        · exact absurd (.inl q) h
        · rw [q]; rfl
    rw [hV]
    have HZ : Hid (isN x = true ∨ wh (sz x) = 0) := ⟨hz⟩
    clear hV hz hCC hC h0
    go_enter Try.func21, Try.ntmps21
    go_wp2_with fail
    refine (HI _).mono ?_
    rintro e w' ⟨z, rfl, hz, rfl⟩
    have hz0 : z = 0 := by unfold IntP at hz; rw [if_pos HZ.it] at hz; exact hz
    subst hz0
    clear hz
    go_wp2
    go_ret
    exact ⟨rfl, rfl⟩
  · have hnn : isN x = false := by cases h : isN x; rfl; exact absurd (.inl h) hz
    have hw0 : wh (sz x) ≠ 0 := fun h => hz (.inr h)
    have hI : sz x ≤ INF := by simpa [isN] using hnn
    have hIL := INF_lt
    have hpos : ∀ z ρ : Nat, vl ρ = wh (sz x) * 2 ^ 1074 → 0 < ρ := fun z ρ hv => by
      rcases Nat.eq_zero_or_pos ρ with q | q
      · have hw := wh_of hv
        rw [q] at hw
        have : wh 0 = 0 := by decide +kernel
        omega
      · exact q
    cases hg : ng x
    · have HX : Hid (∀ z, IntP x z → z ≤ INF ∧ 0 < z ∧ vl z = wh (sz x) * 2 ^ 1074) := ⟨fun z h => by
        unfold IntP at h; rw [if_neg hz, hg] at h
        obtain ⟨ρ, e, hv, hl⟩ := h
        have e' : z = ρ := by rw [e, word_eq]; simp
        subst e'
        exact ⟨by omega, hpos z z hv, hv⟩⟩
      have HV : Hid (lnV x = ((min (wh (sz x)) 9007199254740991 : Nat) : Int)) := ⟨by unfold lnV; rw [if_neg (by rw [hnn, hg]; simp)]⟩
      generalize wh (sz x) = V at *
      clear hz hnn hw0 hI hpos hCC hC h0 hmm hmn
      go_enter Try.func21, Try.ntmps21
      go_wp2_with fail
      refine (HI _).mono ?_
      rintro e w' ⟨z, rfl, hz, rfl⟩
      obtain ⟨hzI, hz0, hv⟩ := HX.it z hz
      have o1 : FloatKind.f64.format.order z 0 = some .gt := by
        have := gt_nat hzI (show 0 ≤ INF by decide)
        simpa [hz0] using this
      have hm1 := fun ts t w => run_max_gt o1 ts t w
      have hcs := CS_wh hv
      have hCI : CS < INF := by decide
      rcases Nat.lt_trichotomy z 4845873199050653695 with c | c | c
      · have o2 : FloatKind.f64.format.order z 4845873199050653695 = some .lt := by
          have := lt_nat hzI (show 4845873199050653695 ≤ INF by decide)
          simpa [c] using this
        have hm2 := fun ts t w => run_min_lt o2 ts t w
        have hV9 : V ≤ 9007199254740991 := by
          have : ¬ CS < z := by unfold CS; omega
          rw [hcs] at this; omega
        have hti := toI z V (by unfold CS at hCI; omega) hv hV9
        have hcv := fun W => run_convert_float_int (P := Try.prog) W 23 2 .f64 .i64 z (V : Int) (by rw [Try.underlying23]; rfl) Try.underlying2 hti
        have H9 : Hid (V ≤ 9007199254740991) := ⟨hV9⟩
        clear hz hzI hz0 hv o1 o2 hcs hCI c hV9 hti hcv0 hcvC hmc
        go_wp2
        go_ret
        exact ⟨ri (by rw [HV.it]; have := H9.it; omega), rfl⟩
      · subst c
        have hV9 : V = 9007199254740991 := by
          have hw := wh_of hv
          have : wh 4845873199050653695 = 9007199254740991 := by decide +kernel
          omega
        have H9 : Hid (V = 9007199254740991) := ⟨hV9⟩
        clear hz hzI hz0 hv o1 hcs hCI hV9 hcv0
        go_wp2
        go_ret
        exact ⟨ri (by rw [HV.it, H9.it]; rfl), rfl⟩
      · have o2 : FloatKind.f64.format.order z 4845873199050653695 = some .gt := by
          have := gt_nat hzI (show 4845873199050653695 ≤ INF by decide)
          simpa [c] using this
        have hm2 := fun ts t w => run_min_gt o2 ts t w
        have hV9 : 9007199254740991 < V := hcs.1 (by unfold CS; exact c)
        have H9 : Hid (9007199254740991 < V) := ⟨hV9⟩
        clear hz hzI hz0 hv o1 o2 hcs hCI c hV9 hcv0 hmc
        go_wp2
        go_ret
        exact ⟨ri (by rw [HV.it]; have := H9.it; omega), rfl⟩
    · have hV : lnV x = 0 := by unfold lnV; rw [if_pos (.inr hg)]
      rw [hV]
      have HX : Hid (∀ z, IntP x z → FloatKind.f64.format.order z 0 = some .lt) := ⟨fun z h => by
        unfold IntP at h; rw [if_neg hz, hg] at h
        obtain ⟨ρ, e, hv, hl⟩ := h
        have hρ0 := hpos z ρ hv
        apply ord_lt
        rw [ltz, e, ng_word _ _ (by omega), sz_word _ _ (by omega)]
        have : isN (Ieee.double.word true ρ) = false := by unfold isN; rw [sz_word _ _ (by omega)]; simp; omega
        rw [this]; simp [hρ0]⟩
      clear hV hz hnn hw0 hI hpos hCC hC h0 hmm hmc hcvC
      go_enter Try.func21, Try.ntmps21
      go_wp2_with fail
      refine (HI _).mono ?_
      rintro e w' ⟨z, rfl, hz, rfl⟩
      have hm1 := fun ts t w => run_max_lt (HX.it z hz) ts t w
      clear hz
      go_wp2
      go_ret
      exact ⟨rfl, rfl⟩
end Go.Proofs.Ytclahchmdcgdhaa
