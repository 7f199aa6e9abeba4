import Derived.Test.YtclahchmdcgdhaaDoorRf
namespace Go.Proofs.YtclahchmdcgdhaaDoor
open Go.RowKit FM
attribute [local go_sem] frombits_run bits_run

theorem refRadix_base (x : Nat) (b : Int) (hb : b < 2 ∨ 36 < b) (w : World) : Calls Tryd.prog 6 #[.float .f64 x, .int .i64 b] w fun e w' => e = .returned (.tuple #[.string ⟨#[]⟩, .int .i64 7]) ∧ w' = w := by
  by_cases h : b < 2
  · go_enter Tryd.func6, Tryd.ntmps6
    go_wp2
    go_ret2
    exact ⟨rfl, rfl⟩
  · have h2 : 36 < b := by omega
    go_enter Tryd.func6, Tryd.ntmps6
    go_wp2
    go_ret2
    exact ⟨rfl, rfl⟩
theorem refRadix_no (x : Nat) (b : Int) (hx : x < 2 ^ 64) (hb : 2 ≤ b) (hb2 : b ≤ 36) (hok : okS x = false) (w : World) : Calls Tryd.prog 6 #[.float .f64 x, .int .i64 b] w fun e w' => e = .returned (.tuple #[.string ⟨#[]⟩, .int .i64 7]) ∧ w' = w := by
  have HF := fun w => finite_any x hx w
  by_cases hI : sz x < INF
  · rw [decide_eq_true hI] at HF
    have HI := fun w => isWhole_any x hx hI w
    by_cases hW : decide (2 ^ 1074 ∣ vl (sz x)) = true
    · have HW := fun w => whole_any x hx hI hW w
      have hbig : 9007199254740991 < wh (sz x) := by
        unfold okS at hok
        rw [hW, Bool.and_true, decide_eq_false_iff_not] at hok
        have hle : CS + 1 ≤ sz x := by omega
        have hv : vl (CS + 1) ≤ vl (sz x) := vl_le.2 hle
        have e : wh (CS + 1) = 9007199254740992 := by decide +kernel
        have h1 : wh (CS + 1) ≤ wh (sz x) := Nat.div_le_div_right hv
        omega
      rw [hW] at HI
      clear hW hok
      generalize wh (sz x) = N at *
      go_enter Tryd.func6, Tryd.ntmps6
      go_wp2_with fail
      refine (HF _).mono ?_
      rintro e w' ⟨rfl, rfl⟩
      go_wp2_with fail
      refine (HI _).mono ?_
      rintro e w' ⟨rfl, rfl⟩
      go_wp2_with fail
      refine (HW _).mono ?_
      rintro e w' ⟨n, ok, rfl, hk1, hk2, hn64, rfl⟩
      cases ok
      · clear hk1 hk2
        go_wp2
        go_ret2
        exact ⟨rfl, rfl⟩
      · have hnN : n = N := hk1 rfl
        subst hnN
        have hn' : (9007199254740991 : Int) < (n : Int) := by omega
        clear hk1 hk2
        go_wp2
        go_ret2
        exact ⟨rfl, rfl⟩
    · have hW' : decide (2 ^ 1074 ∣ vl (sz x)) = false := (Bool.not_eq_true _).mp hW
      rw [hW'] at HI
      clear hW hW' hok
      go_enter Tryd.func6, Tryd.ntmps6
      go_wp2_with fail
      refine (HF _).mono ?_
      rintro e w' ⟨rfl, rfl⟩
      go_wp2_with fail
      refine (HI _).mono ?_
      rintro e w' ⟨rfl, rfl⟩
      go_wp2
      go_ret2
      exact ⟨rfl, rfl⟩
  · rw [decide_eq_false hI] at HF
    clear hok
    go_enter Tryd.func6, Tryd.ntmps6
    go_wp2_with fail
    refine (HF _).mono ?_
    rintro e w' ⟨rfl, rfl⟩
    go_wp2
    go_ret2
    exact ⟨rfl, rfl⟩
theorem radix_base (x : Nat) (b : Int) (hb : b < 2 ∨ 36 < b) (w : World) : Calls Tryd.prog 5 #[.float .f64 x, .int .i64 b] w fun e w' => e = .returned (.tuple #[.string ⟨#[]⟩, .int .i64 7]) ∧ w' = w := by
  by_cases h : b < 2
  · go_enter Tryd.func5, Tryd.ntmps5
    go_wp2
    go_ret2
    exact ⟨rfl, rfl⟩
  · have h2 : 36 < b := by omega
    go_enter Tryd.func5, Tryd.ntmps5
    go_wp2
    go_ret2
    exact ⟨rfl, rfl⟩
theorem radix_no (x : Nat) (b : Int) (hx : x < 2 ^ 64) (hb : 2 ≤ b) (hb2 : b ≤ 36) (hok : okS x = false) (w : World) : Calls Tryd.prog 5 #[.float .f64 x, .int .i64 b] w fun e w' => e = .returned (.tuple #[.string ⟨#[]⟩, .int .i64 7]) ∧ w' = w := by
  have HS := fun w => safe_any x hx w
  rw [hok] at HS
  go_enter Tryd.func5, Tryd.ntmps5
  go_wp2_with fail
  refine (HS _).mono ?_
  rintro e w' ⟨rfl, rfl⟩
  go_wp2
  go_ret2
  exact ⟨rfl, rfl⟩
theorem div_pos_gen (v c : Nat) (hv : 0 < v) (h : 2 ^ c ∣ v) : 0 < v / 2 ^ c := Nat.div_pos (Nat.le_of_dvd hv h) (Nat.two_pow_pos c)
theorem FI_sg (x b : Nat) (hok : okS x = true) : FI (sgn (ng x) (wh (sz x))) b = sgS x ++ DG b (wh (sz x)) := by
  have h2 : 2 ^ 1074 ∣ vl (sz x) := by unfold okS at hok; rw [Bool.and_eq_true] at hok; exact of_decide_eq_true hok.2
  have hz : 0 < sz x ↔ 0 < wh (sz x) := by
    constructor
    · intro h
      have hv := vl_pos h
      exact div_pos_gen (vl (sz x)) 1074 hv h2
    · intro h
      rcases Nat.eq_zero_or_pos (sz x) with g | g
      · rw [g] at h
        have : wh 0 = 0 := by decide +kernel
        omega
      · exact g
  unfold FI sgS sgn
  cases ng x
  · simp only [Bool.false_and, Bool.false_eq_true, if_false, List.nil_append, Int.natAbs_natCast]
    rw [if_neg (by omega)]
  · simp only [Bool.true_and, if_true, decide_eq_true_eq, Int.natAbs_neg, Int.natAbs_natCast]
    by_cases h : 0 < sz x
    · have := hz.1 h
      rw [if_pos h, if_pos (by omega)]; rfl
    · have : ¬ 0 < wh (sz x) := fun g => h (hz.2 g)
      rw [if_neg h, if_neg (by omega)]; rfl
theorem radix_any (x b : Nat) (hx : x < 2 ^ 64) (hb : 2 ≤ b) (hb2 : b ≤ 36) (hok : okS x = true) (w : World) (hP : Lib.TabIs Tryd.prog w "internal/strconv.uint64pow10" .u64 Lib.pow10Tab) (hT : DBT w) : Calls Tryd.prog 5 #[.float .f64 x, .int .i64 (b : Int)] w fun e w' => e = .returned (.tuple #[.string ⟨(sgS x ++ DG b (wh (sz x))).toArray⟩, .int .i64 0]) ∧ Below w.heap.size w w' := by
  have HS := fun w => safe_any x hx w
  rw [hok] at HS
  have hCI := CS_lt
  have h1 : sz x ≤ CS := by unfold okS at hok; rw [Bool.and_eq_true, decide_eq_true_eq] at hok; exact hok.1
  have hwl : wh (sz x) ≤ 9007199254740991 := by
    have hv : vl (sz x) ≤ vl CS := vl_le.2 h1
    have e : wh CS = 9007199254740991 := by decide +kernel
    rw [← e]
    exact Nat.div_le_div_right hv
  have hsgn : -9007199254740991 ≤ sgn (ng x) (wh (sz x)) ∧ sgn (ng x) (wh (sz x)) ≤ 9007199254740991 := by unfold sgn; split <;> omega
  have hti : floatToIntVal .f64 x .i64 = some (sgn (ng x) (wh (sz x))) := by
    unfold floatToIntVal
    have e : (FloatKind.f64.decode x).toInt .zero = some (sgn (ng x) (wh (sz x))) := toInt_fin x (by omega)
    rw [e]
    have hmin : IntKind.i64.min = -9223372036854775808 := by decide
    have hmax : IntKind.i64.max = 9223372036854775807 := by decide
    simp only []
    rw [if_pos (by rw [hmin, hmax]; omega)]
  have HFI := FI_sg x b hok
  rw [← HFI]
  generalize sgn (ng x) (wh (sz x)) = i at *
  have HF := format_any i b hsgn.1 hsgn.2 hb hb2 w hP hT
  have hcv := fun W => run_convert_float_int (P := Tryd.prog) W 23 2 .f64 .i64 x i (by rw [Tryd.underlying23]; rfl) Tryd.underlying2 hti
  clear HFI hok h1 hwl hti
  go_enter Tryd.func5, Tryd.ntmps5
  go_wp2_with fail
  refine (HS _).mono ?_
  rintro e w' ⟨rfl, rfl⟩
  go_wp2_with fail
  refine HF.mono ?_
  rintro e w' ⟨rfl, hbe⟩
  go_wp2
  go_ret2
  exact ⟨rfl, hbe⟩
theorem num_any (e : Int) (he : e = 0 ∨ e = 7) (w : World) : Calls Tryd.prog 7 #[.int .i64 e] w fun r w' => r = .returned (.int .i64 e) ∧ w' = w := by
  rcases he with rfl | rfl
  all_goals
    go_enter Tryd.func7, Tryd.ntmps7
    go_wp2
    go_ret
    exact ⟨rfl, rfl⟩
theorem law_radix (x : Nat) (base : Int) (hx : x < 2 ^ 64) (w : World) (hP : Lib.TabIs Tryd.prog w "internal/strconv.uint64pow10" .u64 Lib.pow10Tab) (hT : DBT w) : Calls Tryd.prog 3 #[.int .u64 (x : Int), .int .i64 base] w fun e w' => e = .returned (.bool true) ∧ Below w.heap.size w w' := by
  have HFl := fun w => float_any x w
  by_cases hb : base < 2 ∨ 36 < base
  · have H1 := fun w => radix_base x base hb w
    have H2 := fun w => refRadix_base x base hb w
    have H3 := fun w => num_any 7 (.inr rfl) w
    clear hb
    go_enter Tryd.func3, Tryd.ntmps3
    go_wp2_with fail
    refine (HFl _).mono ?_
    rintro e w' ⟨rfl, rfl⟩
    go_wp2_with fail
    refine (H1 _).mono ?_
    rintro e w' ⟨rfl, rfl⟩
    go_wp2_with fail
    refine (H2 _).mono ?_
    rintro e w' ⟨rfl, rfl⟩
    go_wp2_with fail
    refine (H3 _).mono ?_
    rintro e w' ⟨rfl, rfl⟩
    go_wp2
    go_ret
    exact ⟨rfl, Below.refl _ _⟩
  · obtain ⟨b, rfl⟩ : ∃ b : Nat, base = (b : Int) := ⟨base.toNat, by omega⟩
    have hb2 : 2 ≤ b := by omega
    have hb3 : b ≤ 36 := by omega
    cases hok : okS x
    · have H1 := fun w => radix_no x (b : Int) hx (by omega) (by omega) hok w
      have H2 := fun w => refRadix_no x (b : Int) hx (by omega) (by omega) hok w
      have H3 := fun w => num_any 7 (.inr rfl) w
      clear hb hok
      go_enter Tryd.func3, Tryd.ntmps3
      go_wp2_with fail
      refine (HFl _).mono ?_
      rintro e w' ⟨rfl, rfl⟩
      go_wp2_with fail
      refine (H1 _).mono ?_
      rintro e w' ⟨rfl, rfl⟩
      go_wp2_with fail
      refine (H2 _).mono ?_
      rintro e w' ⟨rfl, rfl⟩
      go_wp2_with fail
      refine (H3 _).mono ?_
      rintro e w' ⟨rfl, rfl⟩
      go_wp2
      go_ret
      exact ⟨rfl, Below.refl _ _⟩
    · have H1 := radix_any x b hx hb2 hb3 hok w hP hT
      have H2 := fun w => refRadix_any x b hx hb2 hb3 hok w
      have H3 := fun w => num_any 0 (.inl rfl) w
      clear hb hok
      generalize (⟨(sgS x ++ DG b (wh (sz x))).toArray⟩ : ByteArray) = R at *
      go_enter Tryd.func3, Tryd.ntmps3
      go_wp2_with fail
      refine (HFl _).mono ?_
      rintro e w' ⟨rfl, rfl⟩
      go_wp2_with fail
      refine H1.mono ?_
      rintro e w1 ⟨rfl, hbe1⟩
      go_wp2_with fail
      refine (H2 _).mono ?_
      rintro e w2 ⟨rfl, hbe2⟩
      have hbe : Below w'.heap.size w' w2 := hbe1.trans (hbe2.mono hbe1.size)
      clear hbe1 hbe2
      go_wp2_with fail
      refine (H3 _).mono ?_
      rintro e w' ⟨rfl, rfl⟩
      go_wp2
      go_ret
      exact ⟨rb (by simp), hbe⟩
end Go.Proofs.YtclahchmdcgdhaaDoor
