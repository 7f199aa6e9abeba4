import Derived.Test.YtedgaaaloigpdaaDoorWc
import Derived.Test.YtedgaaaloigpdaaDoorChecked
import Derived.Test.YtedgaaaloigpdaaDoorMathn
import Derived.WalkKit
import Derived.WalkSpells
import Derived.WalkLawsBesides
import Derived.Laws.BitsAllLaws
namespace Go.Proofs.YtedgaaaloigpdaaDoor
open Go.RowKit FM

theorem bits_run (b : Nat) (w : World) : (callFunc 54 #[.float .f64 b]).run Tryd.prog w = .ok (.value (.int .u64 (b : Int))) w := by
  rw [run_callFunc_extern Tryd.func54 (by kernel_rfl) (by kernel_rfl) (by kernel_rfl) (e := Extern.MathFloatBits.float64bits) (by kernel_rfl)]; rfl
attribute [local go_sem] bits_run
theorem rb {a b : Bool} (h : a = b) : Ending.returned (.bool a) = Ending.returned (.bool b) := by rw [h]
theorem isnan_any (b : Nat) (w : World) : Calls Tryd.prog 81 #[.float .f64 b] w fun e w' => e = .returned (.bool (isN b)) ∧ w' = w := by
  go_enter Tryd.func81, Tryd.ntmps81
  go_wp2
  go_ret
  exact ⟨by rw [← nanF]; rfl, rfl⟩
def sameV (x y : Nat) : Bool := (isN x && isN y) || decide (x = y)
def same0V (x y : Nat) : Bool := sameV x y || (decide (sz x = 0) && decide (sz y = 0))
def equalV (x y : Nat) : Bool := !isN x && !isN y && same0V x y
theorem fo (x y : Nat) : FloatKind.f64.format.order x y = Ieee.double.order x y := rfl
theorem sz0_nan {b : Nat} (h : sz b = 0) : isN b = false := by
  unfold isN; rw [h]; decide

theorem same_any (x y : Nat) (w : World) : Calls Tryd.prog 75 #[.float .f64 x, .float .f64 y] w fun e w' => e = .returned (.bool (sameV x y)) ∧ w' = w := by
  cases hx : isN x
  · cases hy : isN y
    · go_enter Tryd.func75, Tryd.ntmps75
      go_wp2_with fail
      refine (isnan_any x _).mono ?_
      rintro e w' ⟨rfl, rfl⟩
      rw [hx]
      go_wp2_with fail
      refine (isnan_any y _).mono ?_
      rintro e w' ⟨rfl, rfl⟩
      rw [hy]
      go_wp2
      go_ret
      refine ⟨rb ?_, rfl⟩
      unfold sameV
      rw [hx, hy, Bool.eq_iff_iff]
      simp
      omega
    · go_enter Tryd.func75, Tryd.ntmps75
      go_wp2_with fail
      refine (isnan_any x _).mono ?_
      rintro e w' ⟨rfl, rfl⟩
      rw [hx]
      go_wp2_with fail
      refine (isnan_any y _).mono ?_
      rintro e w' ⟨rfl, rfl⟩
      rw [hy]
      go_wp2_with fail
      refine (isnan_any x _).mono ?_
      rintro e w' ⟨rfl, rfl⟩
      rw [hx]
      go_wp2
      go_ret
      refine ⟨rb ?_, rfl⟩
      unfold sameV
      have hne : x ≠ y := fun e => by rw [e, hy] at hx; cases hx
      simp [hx, hne]
  · cases hy : isN y
    · go_enter Tryd.func75, Tryd.ntmps75
      go_wp2_with fail
      refine (isnan_any x _).mono ?_
      rintro e w' ⟨rfl, rfl⟩
      rw [hx]
      go_wp2_with fail
      refine (isnan_any x _).mono ?_
      rintro e w' ⟨rfl, rfl⟩
      rw [hx]
      go_wp2_with fail
      refine (isnan_any y _).mono ?_
      rintro e w' ⟨rfl, rfl⟩
      rw [hy]
      go_wp2
      go_ret
      refine ⟨rb ?_, rfl⟩
      unfold sameV
      have hne : x ≠ y := fun e => by rw [e, hy] at hx; cases hx
      simp [hy, hne]
    · go_enter Tryd.func75, Tryd.ntmps75
      go_wp2_with fail
      refine (isnan_any x _).mono ?_
      rintro e w' ⟨rfl, rfl⟩
      rw [hx]
      go_wp2_with fail
      refine (isnan_any x _).mono ?_
      rintro e w' ⟨rfl, rfl⟩
      rw [hx]
      go_wp2_with fail
      refine (isnan_any y _).mono ?_
      rintro e w' ⟨rfl, rfl⟩
      rw [hy]
      go_wp2
      go_ret
      refine ⟨rb ?_, rfl⟩
      simp [sameV, hx, hy]
theorem eq_order (x y : Nat) (hx64 : x < 2 ^ 64) (hy64 : y < 2 ^ 64) : (FloatKind.f64.format.order x y == some .eq) = equalV x y := by
  rw [fo, eqF x y hx64 hy64]
  unfold equalV same0V sameV
  cases isN x <;> cases isN y <;> simp
end Go.Proofs.YtedgaaaloigpdaaDoor
