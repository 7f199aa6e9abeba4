import Derived.Test.YtclahchmdcgdhaaGf
namespace Go.Proofs.Ytclahchmdcgdhaa
open Go.RowKit FM
attribute [local go_sem] frombits_run bits_run neg_run

theorem int16_any (x : Nat) (hx : x < 2 ^ 64) (w : World) : Calls Try.prog 15 #[.float .f64 x] w fun e w' => e = .returned (.int .i16 (IntKind.i16.wrap ((MV x % 2 ^ 32 : Nat) : Int))) ∧ w' = w := by
  have H := fun w => uint32_any x hx w
  have hl : MV x % 2 ^ 32 < 4294967296 := Nat.mod_lt _ (by decide)
  generalize MV x % 2 ^ 32 = V at *
  go_enter Try.func15, Try.ntmps15
  go_wp2_with fail
  refine (H _).mono ?_
  rintro e w' ⟨rfl, rfl⟩
  go_wp2
  go_ret
  exact ⟨ri (by first | rfl | (rw [IntKind.wrap_i16]) | (rw [IntKind.wrap_i16]; omega)), rfl⟩
theorem uint16_any (x : Nat) (hx : x < 2 ^ 64) (w : World) : Calls Try.prog 16 #[.float .f64 x] w fun e w' => e = .returned (.int .u16 (IntKind.u16.wrap ((MV x % 2 ^ 32 : Nat) : Int))) ∧ w' = w := by
  have H := fun w => uint32_any x hx w
  have hl : MV x % 2 ^ 32 < 4294967296 := Nat.mod_lt _ (by decide)
  generalize MV x % 2 ^ 32 = V at *
  go_enter Try.func16, Try.ntmps16
  go_wp2_with fail
  refine (H _).mono ?_
  rintro e w' ⟨rfl, rfl⟩
  go_wp2
  go_ret
  exact ⟨ri (by first | rfl | (rw [IntKind.wrap_u16]) | (rw [IntKind.wrap_u16]; omega)), rfl⟩
theorem int8_any (x : Nat) (hx : x < 2 ^ 64) (w : World) : Calls Try.prog 17 #[.float .f64 x] w fun e w' => e = .returned (.int .i8 (IntKind.i8.wrap ((MV x % 2 ^ 32 : Nat) : Int))) ∧ w' = w := by
  have H := fun w => uint32_any x hx w
  have hl : MV x % 2 ^ 32 < 4294967296 := Nat.mod_lt _ (by decide)
  generalize MV x % 2 ^ 32 = V at *
  go_enter Try.func17, Try.ntmps17
  go_wp2_with fail
  refine (H _).mono ?_
  rintro e w' ⟨rfl, rfl⟩
  go_wp2
  go_ret
  exact ⟨ri (by first | rfl | (rw [IntKind.wrap_i8]) | (rw [IntKind.wrap_i8]; omega)), rfl⟩
theorem uint8_any (x : Nat) (hx : x < 2 ^ 64) (w : World) : Calls Try.prog 18 #[.float .f64 x] w fun e w' => e = .returned (.int .u8 (IntKind.u8.wrap ((MV x % 2 ^ 32 : Nat) : Int))) ∧ w' = w := by
  have H := fun w => uint32_any x hx w
  have hl : MV x % 2 ^ 32 < 4294967296 := Nat.mod_lt _ (by decide)
  generalize MV x % 2 ^ 32 = V at *
  go_enter Try.func18, Try.ntmps18
  go_wp2_with fail
  refine (H _).mono ?_
  rintro e w' ⟨rfl, rfl⟩
  go_wp2
  go_ret
  exact ⟨ri (by first | rfl | (rw [IntKind.wrap_u8]) | (rw [IntKind.wrap_u8]; omega)), rfl⟩
end Go.Proofs.Ytclahchmdcgdhaa
