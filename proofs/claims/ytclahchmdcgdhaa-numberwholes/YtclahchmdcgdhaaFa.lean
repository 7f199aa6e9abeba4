import Derived.Test.YtclahchmdcgdhaaRows
import Derived.Test.YtclahchmdcgdhaaMath
import Derived.WalkKit
import Derived.WalkSpells
import Derived.WalkLawsBesides
import Derived.Laws.BitsAllLaws
namespace Go.Proofs.Ytclahchmdcgdhaa
open Go.RowKit FM

theorem frombits_run (n : Int) (w : World) : (callFunc 37 #[.int .u64 n]).run Try.prog w = .ok (.value (.float .f64 n.toNat)) w := by
  rw [run_callFunc_extern Try.func37 (by kernel_rfl) (by kernel_rfl) (by kernel_rfl) (e := Extern.MathFloatBits.float64frombits) (by kernel_rfl)]; rfl
theorem bits_run (b : Nat) (w : World) : (callFunc 55 #[.float .f64 b]).run Try.prog w = .ok (.value (.int .u64 (b : Int))) w := by
  rw [run_callFunc_extern Try.func55 (by kernel_rfl) (by kernel_rfl) (by kernel_rfl) (e := Extern.MathFloatBits.float64bits) (by kernel_rfl)]; rfl
attribute [local go_sem] frombits_run bits_run

theorem size_bits (b : Nat) (hb : b < 2 ^ 64) : bits BinOp.andNot IntKind.u64 (b : Int) 9223372036854775808 = (sz b : Int) := by
  have h := u64_andNot_nat b 9223372036854775808 hb (by decide)
  have e : b &&& (18446744073709551615 - 9223372036854775808) = b % 2 ^ 63 := Nat.and_two_pow_sub_one_eq_mod b 63
  rw [e] at h
  exact h

theorem rb {a b : Bool} (h : a = b) : Ending.returned (.bool a) = Ending.returned (.bool b) := by rw [h]
theorem ri {k : IntKind} {a b : Int} (h : a = b) : Ending.returned (.int k a) = Ending.returned (.int k b) := by rw [h]
theorem w64 {a : Int} (h : -9223372036854775808 ≤ a) (h' : a ≤ 9223372036854775807) : wrap64 a = a := by unfold wrap64; omega
theorem sz_lt (b : Nat) : sz b < 9223372036854775808 := Nat.mod_lt _ (by decide)
theorem float_any (n : Nat) (w : World) : Calls Try.prog 6 #[.int .u64 (n : Int)] w fun e w' => e = .returned (.float .f64 n) ∧ w' = w := by
  go_enter Try.func6, Try.ntmps6
  go_wp2
  go_ret
  exact ⟨rfl, rfl⟩
theorem isnan_any (b : Nat) (w : World) : Calls Try.prog 44 #[.float .f64 b] w fun e w' => e = .returned (.bool (isN b)) ∧ w' = w := by
  go_enter Try.func44, Try.ntmps44
  go_wp2
  go_ret
  exact ⟨by rw [← nanF]; rfl, rfl⟩
theorem size_any (b : Nat) (hb : b < 2 ^ 64) (w : World) : Calls Try.prog 40 #[.float .f64 b] w fun e w' => e = .returned (.int .u64 (sz b : Int)) ∧ w' = w := by
  have hs := size_bits b hb
  clear hb
  go_enter Try.func40, Try.ntmps40
  go_wp2
  go_ret
  exact ⟨rfl, rfl⟩
theorem nan_any (b : Nat) (hb : b < 2 ^ 64) (w : World) : Calls Try.prog 42 #[.float .f64 b] w fun e w' => e = .returned (.bool (isN b)) ∧ w' = w := by
  go_enter Try.func42, Try.ntmps42
  go_wp2_with fail
  refine (size_any b hb _).mono ?_
  rintro e w' ⟨rfl, rfl⟩
  go_wp2
  go_ret
  refine ⟨rb ?_, rfl⟩
  unfold isN INF
  rw [decide_eq_decide]
  omega
theorem finite_any (b : Nat) (hb : b < 2 ^ 64) (w : World) : Calls Try.prog 38 #[.float .f64 b] w fun e w' => e = .returned (.bool (decide (sz b < INF))) ∧ w' = w := by
  go_enter Try.func38, Try.ntmps38
  go_wp2_with fail
  refine (size_any b hb _).mono ?_
  rintro e w' ⟨rfl, rfl⟩
  go_wp2
  go_ret
  refine ⟨rb ?_, rfl⟩
  rw [decide_eq_decide, show INF = 9218868437227405312 from rfl]
  omega
theorem negative_any (b : Nat) (hb : b < 2 ^ 64) (w : World) : Calls Try.prog 41 #[.float .f64 b] w fun e w' => e = .returned (.bool (ng b)) ∧ w' = w := by
  go_enter Try.func41, Try.ntmps41
  go_wp2
  go_ret
  refine ⟨rb ?_, rfl⟩
  unfold ng
  rw [Bool.eq_iff_iff]
  simp only [beq_iff_eq]
  omega
theorem place_any (b : Nat) (hb : b < 2 ^ 64) (w : World) : Calls Try.prog 54 #[.float .f64 b] w fun e w' => e = .returned (.int .i64 (pl b)) ∧ w' = w := by
  cases h : ng b <;> unfold pl <;> rw [h]
  · go_enter Try.func54, Try.ntmps54
    go_wp2_with fail
    refine (negative_any b hb _).mono ?_
    rintro e w' ⟨rfl, rfl⟩
    rw [h]
    go_wp2_with fail
    refine (size_any b hb _).mono ?_
    rintro e w' ⟨rfl, rfl⟩
    go_wp2
    go_ret
    refine ⟨ri ?_, rfl⟩
    have := sz_lt b
    exact w64 (by omega) (by omega)
  · go_enter Try.func54, Try.ntmps54
    go_wp2_with fail
    refine (negative_any b hb _).mono ?_
    rintro e w' ⟨rfl, rfl⟩
    rw [h]
    go_wp2_with fail
    refine (size_any b hb _).mono ?_
    rintro e w' ⟨rfl, rfl⟩
    go_wp2
    go_ret
    refine ⟨ri ?_, rfl⟩
    have := sz_lt b
    rw [w64 (a := (sz b : Int)) (by omega) (by omega)]
    exact w64 (by omega) (by omega)
def sameV (x y : Nat) : Bool := (isN x && isN y) || decide (x = y)
def same0V (x y : Nat) : Bool := sameV x y || (decide (sz x = 0) && decide (sz y = 0))
def equalV (x y : Nat) : Bool := !isN x && !isN y && same0V x y
theorem rt {a b c d : Value} (h : a = c) (h' : b = d) : Ending.returned (.tuple #[a, b]) = Ending.returned (.tuple #[c, d]) := by rw [h, h']
theorem vb {a b : Bool} (h : a = b) : Value.bool a = Value.bool b := by rw [h]
theorem fo (x y : Nat) : FloatKind.f64.format.order x y = Ieee.double.order x y := rfl
theorem sz0_nan {b : Nat} (h : sz b = 0) : isN b = false := by
  unfold isN; rw [h]; decide

theorem less_any (x y : Nat) (w : World) : Calls Try.prog 24 #[.float .f64 x, .float .f64 y] w fun e w' => e = .returned (.tuple #[.bool (!isN x && !isN y && decide (pl x < pl y)), .bool (!isN x && !isN y)]) ∧ w' = w := by
  cases hx : isN x
  · cases hy : isN y
    · go_enter Try.func24, Try.ntmps24
      go_wp2_with fail
      refine (isnan_any x _).mono ?_
      rintro e w' ⟨rfl, rfl⟩
      rw [hx]
      go_wp2_with fail
      refine (isnan_any y _).mono ?_
      rintro e w' ⟨rfl, rfl⟩
      rw [hy]
      go_wp2
      go_ret2
      refine ⟨rt (vb ?_) rfl, rfl⟩
      rw [fo, ltF, hx, hy]
    · go_enter Try.func24, Try.ntmps24
      go_wp2_with fail
      refine (isnan_any x _).mono ?_
      rintro e w' ⟨rfl, rfl⟩
      rw [hx]
      go_wp2_with fail
      refine (isnan_any y _).mono ?_
      rintro e w' ⟨rfl, rfl⟩
      rw [hy]
      go_wp2
      go_ret2
      exact ⟨rfl, rfl⟩
  · go_enter Try.func24, Try.ntmps24
    go_wp2_with fail
    refine (isnan_any x _).mono ?_
    rintro e w' ⟨rfl, rfl⟩
    rw [hx]
    go_wp2
    go_ret2
    exact ⟨rfl, rfl⟩
theorem refLess_any (x y : Nat) (hx64 : x < 2 ^ 64) (hy64 : y < 2 ^ 64) (w : World) : Calls Try.prog 25 #[.float .f64 x, .float .f64 y] w fun e w' => e = .returned (.tuple #[.bool (!isN x && !isN y && decide (pl x < pl y)), .bool (!isN x && !isN y)]) ∧ w' = w := by
  cases hx : isN x
  · cases hy : isN y
    · go_enter Try.func25, Try.ntmps25
      go_wp2_with fail
      refine (nan_any x hx64 _).mono ?_
      rintro e w' ⟨rfl, rfl⟩
      rw [hx]
      go_wp2_with fail
      refine (nan_any y hy64 _).mono ?_
      rintro e w' ⟨rfl, rfl⟩
      rw [hy]
      go_wp2_with fail
      refine (place_any x hx64 _).mono ?_
      rintro e w' ⟨rfl, rfl⟩
      go_wp2_with fail
      refine (place_any y hy64 _).mono ?_
      rintro e w' ⟨rfl, rfl⟩
      go_wp2
      go_ret2
      exact ⟨rt (vb (by simp)) rfl, rfl⟩
    · go_enter Try.func25, Try.ntmps25
      go_wp2_with fail
      refine (nan_any x hx64 _).mono ?_
      rintro e w' ⟨rfl, rfl⟩
      rw [hx]
      go_wp2_with fail
      refine (nan_any y hy64 _).mono ?_
      rintro e w' ⟨rfl, rfl⟩
      rw [hy]
      go_wp2
      go_ret2
      exact ⟨rfl, rfl⟩
  · go_enter Try.func25, Try.ntmps25
    go_wp2_with fail
    refine (nan_any x hx64 _).mono ?_
    rintro e w' ⟨rfl, rfl⟩
    rw [hx]
    go_wp2
    go_ret2
    exact ⟨rfl, rfl⟩
theorem same_any (x y : Nat) (w : World) : Calls Try.prog 26 #[.float .f64 x, .float .f64 y] w fun e w' => e = .returned (.bool (sameV x y)) ∧ w' = w := by
  cases hx : isN x
  · cases hy : isN y
    · go_enter Try.func26, Try.ntmps26
      go_wp2_with fail
      refine (isnan_any x _).mono ?_
      rintro e w' ⟨rfl, rfl⟩
      rw [hx]
      go_wp2_with fail
      refine (isnan_any y _).mono ?_
      rintro e w' ⟨rfl, rfl⟩
      rw [hy]
      go_wp2
      go_ret
      refine ⟨rb ?_, rfl⟩
      unfold sameV
      rw [hx, hy, Bool.eq_iff_iff]
      simp
      omega
    · go_enter Try.func26, Try.ntmps26
      go_wp2_with fail
      refine (isnan_any x _).mono ?_
      rintro e w' ⟨rfl, rfl⟩
      rw [hx]
      go_wp2_with fail
      refine (isnan_any y _).mono ?_
      rintro e w' ⟨rfl, rfl⟩
      rw [hy]
      go_wp2_with fail
      refine (isnan_any x _).mono ?_
      rintro e w' ⟨rfl, rfl⟩
      rw [hx]
      go_wp2
      go_ret
      refine ⟨rb ?_, rfl⟩
      unfold sameV
      have hne : x ≠ y := fun e => by rw [e, hy] at hx; cases hx
      simp [hx, hne]
  · cases hy : isN y
    · go_enter Try.func26, Try.ntmps26
      go_wp2_with fail
      refine (isnan_any x _).mono ?_
      rintro e w' ⟨rfl, rfl⟩
      rw [hx]
      go_wp2_with fail
      refine (isnan_any x _).mono ?_
      rintro e w' ⟨rfl, rfl⟩
      rw [hx]
      go_wp2_with fail
      refine (isnan_any y _).mono ?_
      rintro e w' ⟨rfl, rfl⟩
      rw [hy]
      go_wp2
      go_ret
      refine ⟨rb ?_, rfl⟩
      unfold sameV
      have hne : x ≠ y := fun e => by rw [e, hy] at hx; cases hx
      simp [hy, hne]
    · go_enter Try.func26, Try.ntmps26
      go_wp2_with fail
      refine (isnan_any x _).mono ?_
      rintro e w' ⟨rfl, rfl⟩
      rw [hx]
      go_wp2_with fail
      refine (isnan_any x _).mono ?_
      rintro e w' ⟨rfl, rfl⟩
      rw [hx]
      go_wp2_with fail
      refine (isnan_any y _).mono ?_
      rintro e w' ⟨rfl, rfl⟩
      rw [hy]
      go_wp2
      go_ret
      refine ⟨rb ?_, rfl⟩
      simp [sameV, hx, hy]
theorem refSame_any (x y : Nat) (hx64 : x < 2 ^ 64) (hy64 : y < 2 ^ 64) (w : World) : Calls Try.prog 27 #[.float .f64 x, .float .f64 y] w fun e w' => e = .returned (.bool (sameV x y)) ∧ w' = w := by
  cases hx : isN x
  · go_enter Try.func27, Try.ntmps27
    go_wp2_with fail
    refine (nan_any x hx64 _).mono ?_
    rintro e w' ⟨rfl, rfl⟩
    rw [hx]
    go_wp2
    go_ret
    refine ⟨rb ?_, rfl⟩
    unfold sameV
    rw [hx, Bool.eq_iff_iff]
    simp
    omega
  · cases hy : isN y
    · go_enter Try.func27, Try.ntmps27
      go_wp2_with fail
      refine (nan_any x hx64 _).mono ?_
      rintro e w' ⟨rfl, rfl⟩
      rw [hx]
      go_wp2_with fail
      refine (nan_any y hy64 _).mono ?_
      rintro e w' ⟨rfl, rfl⟩
      rw [hy]
      go_wp2
      go_ret
      refine ⟨rb ?_, rfl⟩
      unfold sameV
      rw [hx, hy, Bool.eq_iff_iff]
      simp
      omega
    · go_enter Try.func27, Try.ntmps27
      go_wp2_with fail
      refine (nan_any x hx64 _).mono ?_
      rintro e w' ⟨rfl, rfl⟩
      rw [hx]
      go_wp2_with fail
      refine (nan_any y hy64 _).mono ?_
      rintro e w' ⟨rfl, rfl⟩
      rw [hy]
      go_wp2
      go_ret
      refine ⟨rb ?_, rfl⟩
      simp [sameV, hx, hy]
theorem eq_order (x y : Nat) (hx64 : x < 2 ^ 64) (hy64 : y < 2 ^ 64) : (FloatKind.f64.format.order x y == some .eq) = equalV x y := by
  rw [fo, eqF x y hx64 hy64]
  unfold equalV same0V sameV
  cases isN x <;> cases isN y <;> simp
theorem equal_any (x y : Nat) (hx64 : x < 2 ^ 64) (hy64 : y < 2 ^ 64) (w : World) : Calls Try.prog 30 #[.float .f64 x, .float .f64 y] w fun e w' => e = .returned (.bool (equalV x y)) ∧ w' = w := by
  go_enter Try.func30, Try.ntmps30
  go_wp2
  go_ret
  exact ⟨rb (eq_order x y hx64 hy64), rfl⟩
theorem refSame0_any (x y : Nat) (hx64 : x < 2 ^ 64) (hy64 : y < 2 ^ 64) (w : World) : Calls Try.prog 29 #[.float .f64 x, .float .f64 y] w fun e w' => e = .returned (.bool (same0V x y)) ∧ w' = w := by
  cases hs : sameV x y
  · by_cases h0 : sz x = 0
    · go_enter Try.func29, Try.ntmps29
      go_wp2_with fail
      refine (refSame_any x y hx64 hy64 _).mono ?_
      rintro e w' ⟨rfl, rfl⟩
      rw [hs]
      go_wp2_with fail
      refine (size_any x hx64 _).mono ?_
      rintro e w' ⟨rfl, rfl⟩
      rw [h0]
      go_wp2_with fail
      refine (size_any y hy64 _).mono ?_
      rintro e w' ⟨rfl, rfl⟩
      go_wp2
      go_ret
      refine ⟨rb ?_, rfl⟩
      unfold same0V
      rw [hs, Bool.eq_iff_iff]
      simp [h0]
    · have h0' : ((sz x : Int) == 0) = false := by simp; omega
      go_enter Try.func29, Try.ntmps29
      go_wp2_with fail
      refine (refSame_any x y hx64 hy64 _).mono ?_
      rintro e w' ⟨rfl, rfl⟩
      rw [hs]
      go_wp2_with fail
      refine (size_any x hx64 _).mono ?_
      rintro e w' ⟨rfl, rfl⟩
      go_wp2
      go_ret
      refine ⟨rb ?_, rfl⟩
      unfold same0V
      rw [hs]
      simp [h0]
  · go_enter Try.func29, Try.ntmps29
    go_wp2_with fail
    refine (refSame_any x y hx64 hy64 _).mono ?_
    rintro e w' ⟨rfl, rfl⟩
    rw [hs]
    go_wp2
    go_ret
    refine ⟨rb ?_, rfl⟩
    simp [same0V, hs]
theorem refEqual_any (x y : Nat) (hx64 : x < 2 ^ 64) (hy64 : y < 2 ^ 64) (w : World) : Calls Try.prog 31 #[.float .f64 x, .float .f64 y] w fun e w' => e = .returned (.bool (equalV x y)) ∧ w' = w := by
  cases hx : isN x
  · cases hy : isN y
    · go_enter Try.func31, Try.ntmps31
      go_wp2_with fail
      refine (nan_any x hx64 _).mono ?_
      rintro e w' ⟨rfl, rfl⟩
      rw [hx]
      go_wp2_with fail
      refine (nan_any y hy64 _).mono ?_
      rintro e w' ⟨rfl, rfl⟩
      rw [hy]
      go_wp2_with fail
      refine (refSame0_any x y hx64 hy64 _).mono ?_
      rintro e w' ⟨rfl, rfl⟩
      go_wp2
      go_ret
      refine ⟨rb ?_, rfl⟩
      simp [equalV, hx, hy]
    · go_enter Try.func31, Try.ntmps31
      go_wp2_with fail
      refine (nan_any x hx64 _).mono ?_
      rintro e w' ⟨rfl, rfl⟩
      rw [hx]
      go_wp2_with fail
      refine (nan_any y hy64 _).mono ?_
      rintro e w' ⟨rfl, rfl⟩
      rw [hy]
      go_wp2
      go_ret
      refine ⟨rb ?_, rfl⟩
      simp [equalV, hy]
  · go_enter Try.func31, Try.ntmps31
    go_wp2_with fail
    refine (nan_any x hx64 _).mono ?_
    rintro e w' ⟨rfl, rfl⟩
    rw [hx]
    go_wp2
    go_ret
    refine ⟨rb ?_, rfl⟩
    simp [equalV, hx]
theorem same0_any (x y : Nat) (hx64 : x < 2 ^ 64) (hy64 : y < 2 ^ 64) (w : World) : Calls Try.prog 28 #[.float .f64 x, .float .f64 y] w fun e w' => e = .returned (.bool (same0V x y)) ∧ w' = w := by
  have he := eq_order x y hx64 hy64
  cases hE : equalV x y
  · rw [hE] at he
    cases hx : isN x
    · go_enter Try.func28, Try.ntmps28
      go_wp2_with fail
      refine (isnan_any x _).mono ?_
      rintro e w' ⟨rfl, rfl⟩
      rw [hx]
      go_wp2
      go_ret
      refine ⟨rb ?_, rfl⟩
      cases hy : isN y
      · simpa [equalV, hx, hy] using hE.symm
      · have hne : x ≠ y := fun e => by rw [e, hy] at hx; cases hx
        have : ¬ sz y = 0 := fun e => by rw [sz0_nan e] at hy; cases hy
        simp [same0V, sameV, hx, hne, this]
    · go_enter Try.func28, Try.ntmps28
      go_wp2_with fail
      refine (isnan_any x _).mono ?_
      rintro e w' ⟨rfl, rfl⟩
      rw [hx]
      go_wp2_with fail
      refine (isnan_any y _).mono ?_
      rintro e w' ⟨rfl, rfl⟩
      go_wp2
      go_ret
      refine ⟨rb ?_, rfl⟩
      have : ¬ sz x = 0 := fun e => by rw [sz0_nan e] at hx; cases hx
      cases hy : isN y
      · have hne : x ≠ y := fun e => by rw [e, hy] at hx; cases hx
        simp [same0V, sameV, hx, hy, hne, this]
      · simp [same0V, sameV, hx, hy]
  · rw [hE] at he
    go_enter Try.func28, Try.ntmps28
    go_wp2
    go_ret
    refine ⟨rb ?_, rfl⟩
    unfold equalV at hE
    simp at hE
    rw [hE.2]
end Go.Proofs.Ytclahchmdcgdhaa
