import Derived.Test.YtmlofbgnoaobfaaDoorKn
namespace Go.Proofs.YtmlofbgnoaobfaaDoor
open Go Go.Proofs Go.RowKit
set_option linter.unusedSimpArgs false
set_option linter.unusedVariables false
/-- The number of an array index. -/
def ixOf (l : List Nat) : Option Nat := dgV 4294967294 l
theorem ixOf_le (l : List Nat) (m : Nat) (h : ixOf l = some m) : m ≤ 4294967294 := dgV_le _ _ _ h
set_option maxRecDepth 100000 in
theorem index34 (s : ByteArray) (hs : s.size < 4611686018427387904) (w : World) : Calls Tryd.prog 34 #[.string s] w fun e w' => e = .returned (.tuple #[.int .u32 ((ixOf (nums s)).getD 0 : Nat), .bool (ixOf (nums s)).isSome]) ∧ w' = w := by
  have HC := hide (upTo49 s 4294967294 hs (by omega) w)
  have z1 : IntKind.u32.wrap ((ixOf (nums s)).getD 0 : Nat) = ((ixOf (nums s)).getD 0 : Nat) := by
    have : (ixOf (nums s)).getD 0 ≤ 4294967294 := by
      cases h : ixOf (nums s) with
      | none => simp
      | some m => exact ixOf_le _ _ h
    simp [IntKind.wrap, IntKind.bits, IntKind.signed]; omega
  change Hid (Calls Tryd.prog 49 #[.int .i64 4294967294, .string s] w fun e w' => e = .returned (.tuple #[.int .i64 ((ixOf (nums s)).getD 0 : Nat), .bool (ixOf (nums s)).isSome]) ∧ w' = w) at HC
  generalize (ixOf (nums s)).getD 0 = m at *
  generalize (ixOf (nums s)).isSome = b at *
  go_enter Tryd.func34, Tryd.ntmps34
  go_wp2_with fail
  refine (unhide HC).mono ?_
  rintro e w' ⟨rfl, rfl⟩
  go_wp2
  go_ret2
  exact ⟨rfl, rfl⟩
set_option maxRecDepth 100000 in
theorem index17 (s : ByteArray) (hs : s.size < 4611686018427387904) (w : World) : Calls Tryd.prog 17 #[.string s] w fun e w' => e = .returned (.tuple #[.int .u32 ((ixOf (nums s)).getD 0 : Nat), .bool (ixOf (nums s)).isSome]) ∧ w' = w := by
  have HC := hide (digits28 s 4294967294 hs (by omega) w)
  have z1 : IntKind.u32.wrap ((ixOf (nums s)).getD 0 : Nat) = ((ixOf (nums s)).getD 0 : Nat) := by
    have : (ixOf (nums s)).getD 0 ≤ 4294967294 := by
      cases h : ixOf (nums s) with
      | none => simp
      | some m => exact ixOf_le _ _ h
    simp [IntKind.wrap, IntKind.bits, IntKind.signed]; omega
  change Hid (Calls Tryd.prog 28 #[.string s, .int .u64 4294967294] w fun e w' => e = .returned (.tuple #[.int .u64 ((ixOf (nums s)).getD 0 : Nat), .bool (ixOf (nums s)).isSome]) ∧ w' = w) at HC
  generalize (ixOf (nums s)).getD 0 = m at *
  generalize (ixOf (nums s)).isSome = b at *
  go_enter Tryd.func17, Tryd.ntmps17
  go_wp2_with fail
  refine (unhide HC).mono ?_
  rintro e w' ⟨rfl, rfl⟩
  go_wp2
  go_ret2
  exact ⟨rfl, rfl⟩
theorem below_alloc1 (w : World) (o : Obj) : Below w.heap.size w (w.alloc o) := (Below.refl _ _).alloc (Nat.le_refl _) _
def keyV (s : ByteArray) (n : Int) : Value := .agg #[.string s, .int .i64 n]
def kdOf (s : ByteArray) (n : Int) : Int := if n = 0 then (if (ixOf (nums s)).isSome then 0 else 1) else 2
def knOf (s : ByteArray) (n : Int) : Nat := if n = 0 then ((ixOf (nums s)).getD 0) else 0
set_option maxRecDepth 100000 in
theorem kindOf22 (s : ByteArray) (n : Int) (hs : s.size < 4611686018427387904) (w : World) : Calls Tryd.prog 22 #[keyV s n] w fun e w' => e = .returned (.tuple #[.int .i64 (kdOf s n), .int .u32 (knOf s n : Nat)]) ∧ Below w.heap.size w w' := by
  have HC := hide (index34 s hs)
  unfold keyV
  by_cases hn : n = 0
  · subst hn
    have e1 : kdOf s 0 = if (ixOf (nums s)).isSome then 0 else 1 := by unfold kdOf; rw [if_pos rfl]
    have e2 : knOf s 0 = (ixOf (nums s)).getD 0 := by unfold knOf; rw [if_pos rfl]
    rw [e1, e2]
    clear e1 e2
    generalize ixOf (nums s) = o at *
    go_enter Tryd.func22, Tryd.ntmps22
    go_wp2_with fail
    refine (unhide HC _).mono ?_
    rintro e w' ⟨rfl, rfl⟩
    cases o with
    | none =>
      go_wp2
      go_ret2
      exact ⟨rfl, below_alloc1 _ _⟩
    | some m =>
      go_wp2
      go_ret2
      exact ⟨rfl, below_alloc1 _ _⟩
  · have e1 : kdOf s n = 2 := by unfold kdOf; rw [if_neg hn]
    have e2 : knOf s n = 0 := by unfold knOf; rw [if_neg hn]
    rw [e1, e2]
    go_enter Tryd.func22, Tryd.ntmps22
    go_wp2
    go_ret2
    exact ⟨rfl, below_alloc1 _ _⟩
set_option maxRecDepth 100000 in
theorem rank15 (s : ByteArray) (n : Int) (hs : s.size < 4611686018427387904) (w : World) : Calls Tryd.prog 15 #[keyV s n] w fun e w' => e = .returned (.int .i64 (kdOf s n)) ∧ Below w.heap.size w w' := by
  have HC := hide (index17 s hs)
  unfold keyV
  by_cases hn : n = 0
  · subst hn
    have e1 : kdOf s 0 = if (ixOf (nums s)).isSome then 0 else 1 := by unfold kdOf; rw [if_pos rfl]
    rw [e1]
    clear e1
    generalize ixOf (nums s) = o at *
    go_enter Tryd.func15, Tryd.ntmps15
    go_wp2_with fail
    refine (unhide HC _).mono ?_
    rintro e w' ⟨rfl, rfl⟩
    cases o with
    | none =>
      go_wp2
      go_ret
      exact ⟨rfl, below_alloc1 _ _⟩
    | some m =>
      go_wp2
      go_ret
      exact ⟨rfl, below_alloc1 _ _⟩
  · have e1 : kdOf s n = 2 := by unfold kdOf; rw [if_neg hn]
    rw [e1]
    go_enter Tryd.func15, Tryd.ntmps15
    go_wp2
    go_ret
    exact ⟨rfl, below_alloc1 _ _⟩
end Go.Proofs.YtmlofbgnoaobfaaDoor
