import Derived.Test.YtmpdhmdmfmgamaaDoorVg
import Derived.Stop.Asserts
namespace Go.Proofs.YtmpdhmdmfmgamaaDoor
open Go.RowKit FM
theorem q56 (w : World) : (binOp .eql 64 (.iface 72 (.agg #[])) (.iface 72 (.agg #[]))).run Tryd.prog w = .ok (.bool true) w := by kernel_rfl
theorem q57 (w : World) : (binOp .eql 64 (.iface 73 (.agg #[])) (.iface 73 (.agg #[]))).run Tryd.prog w = .ok (.bool true) w := by kernel_rfl
theorem q58 (a b : Bool) (w : World) : (binOp .eql 64 (.iface 74 (.bool a)) (.iface 74 (.bool b))).run Tryd.prog w = .ok (.bool (a == b)) w := by kernel_rfl
theorem q79 (a b : ByteArray) (w : World) : (binOp .eql 64 (.iface 76 (.string a)) (.iface 76 (.string b))).run Tryd.prog w = .ok (.bool (a.toList == b.toList)) w := by
  rw [← beq_toListBytes]; kernel_rfl
theorem q81 (a b : Int) (w : World) : (binOp .eql 64 (.iface 77 (.int .i64 a)) (.iface 77 (.int .i64 b))).run Tryd.prog w = .ok (.bool (a == b)) w := by kernel_rfl
theorem q82 (a b : Int) (w : World) : (binOp .eql 64 (.iface 78 (.int .i64 a)) (.iface 78 (.int .i64 b))).run Tryd.prog w = .ok (.bool (a == b)) w := by kernel_rfl
theorem qne (t u : TypeId) (a b : Value) (w : World) (h : t ≠ u) : (binOp .eql 64 (.iface t a) (.iface u b)).run Tryd.prog w = .ok (.bool false) w := run_eql_iface_types t u a b Tryd.underlying64 h w
attribute [local go_sem] bits_run run_store_float ta56 ta57 ta58 ta59 ta79 ta81 ta82 q56 q57 q58 q79 q81 q82
/-- The type behind a value of a kind. -/
def tyK (k : Int) : TypeId := if k = 1 then 72 else if k = 2 then 73 else if k = 3 then 74 else if k = 4 then 75 else if k = 5 then 76 else if k = 6 then 77 else 78
def inK (v : VV) : Value := if v.k = 1 then .agg #[] else if v.k = 2 then .agg #[] else if v.k = 3 then .bool v.b else if v.k = 4 then .float .f64 v.x else if v.k = 5 then .string v.s else .int .i64 v.i
theorem ifc_eq (v : VV) : v.ifc = .iface (tyK v.k) (inK v) := by
  unfold VV.ifc tyK inK
  repeat' split
  all_goals rfl
def alikeV (cmp : Nat → Nat → Bool) (a b : VV) : Bool := a.k == b.k && (if a.k = 4 then cmp a.x b.x else a.b == b.b && a.s.toList == b.s.toList && a.i == b.i)
theorem qq {r r' : Bool} {w : World} {c : Sem Value} (h : c.run Tryd.prog w = .ok (.bool r) w) (e : r = r') : c.run Tryd.prog w = .ok (.bool r') w := by rw [h, e]
theorem eql_good (cmp : Nat → Nat → Bool) (a b : VV) (ha : a.good = true) (hb : b.good = true) (h4 : a.k ≠ 4) (w : World) : (binOp .eql 64 a.ifc b.ifc).run Tryd.prog w = .ok (.bool (alikeV cmp a b)) w := by
  obtain ⟨k, c, x, s, i⟩ := a
  obtain ⟨k', c', x', s', i'⟩ := b
  by_cases hk : k = k'
  · subst hk
    rcases good_cases ha with ⟨rfl, rfl, rfl, rfl, rfl⟩ | ⟨rfl, rfl, rfl, rfl, rfl⟩ | ⟨rfl, rfl, rfl, rfl⟩ | ⟨rfl, rfl, rfl, rfl⟩ | ⟨rfl, rfl, rfl, rfl, -⟩ | ⟨rfl, rfl, rfl, rfl, -, -⟩ | ⟨rfl, rfl, rfl, rfl, -, -⟩
    · rcases good_cases hb with ⟨-, rfl, rfl, rfl, rfl⟩ | ⟨h, -⟩ | ⟨h, -⟩ | ⟨h, -⟩ | ⟨h, -⟩ | ⟨h, -⟩ | ⟨h, -⟩ <;> first | (exfalso; dsimp only at h; omega) | exact qq (q56 w) (by simp [alikeV])
    · rcases good_cases hb with ⟨h, -⟩ | ⟨-, rfl, rfl, rfl, rfl⟩ | ⟨h, -⟩ | ⟨h, -⟩ | ⟨h, -⟩ | ⟨h, -⟩ | ⟨h, -⟩ <;> first | (exfalso; dsimp only at h; omega) | exact qq (q57 w) (by simp [alikeV])
    · rcases good_cases hb with ⟨h, -⟩ | ⟨h, -⟩ | ⟨-, rfl, rfl, rfl⟩ | ⟨h, -⟩ | ⟨h, -⟩ | ⟨h, -⟩ | ⟨h, -⟩ <;> first | (exfalso; dsimp only at h; omega) | exact qq (q58 c c' w) (by simp [alikeV])
    · exact absurd rfl h4
    · rcases good_cases hb with ⟨h, -⟩ | ⟨h, -⟩ | ⟨h, -⟩ | ⟨h, -⟩ | ⟨-, rfl, rfl, rfl, -⟩ | ⟨h, -⟩ | ⟨h, -⟩ <;> first | (exfalso; dsimp only at h; omega) | exact qq (q79 s s' w) (by simp [alikeV])
    · rcases good_cases hb with ⟨h, -⟩ | ⟨h, -⟩ | ⟨h, -⟩ | ⟨h, -⟩ | ⟨h, -⟩ | ⟨-, rfl, rfl, rfl, -, -⟩ | ⟨h, -⟩ <;> first | (exfalso; dsimp only at h; omega) | exact qq (q81 i i' w) (by simp [alikeV])
    · rcases good_cases hb with ⟨h, -⟩ | ⟨h, -⟩ | ⟨h, -⟩ | ⟨h, -⟩ | ⟨h, -⟩ | ⟨h, -⟩ | ⟨-, rfl, rfl, rfl, -, -⟩ <;> first | (exfalso; dsimp only at h; omega) | exact qq (q82 i i' w) (by simp [alikeV])
  · rw [ifc_eq, ifc_eq]
    refine qq (qne _ _ _ _ w ?_) ?_
    · have e1 : k = 1 ∨ k = 2 ∨ k = 3 ∨ k = 4 ∨ k = 5 ∨ k = 6 ∨ k = 7 := by
        rcases good_cases ha with ⟨h, -⟩ | ⟨h, -⟩ | ⟨h, -⟩ | ⟨h, -⟩ | ⟨h, -⟩ | ⟨h, -⟩ | ⟨h, -⟩ <;> (dsimp only at h; omega)
      have e2 : k' = 1 ∨ k' = 2 ∨ k' = 3 ∨ k' = 4 ∨ k' = 5 ∨ k' = 6 ∨ k' = 7 := by
        rcases good_cases hb with ⟨h, -⟩ | ⟨h, -⟩ | ⟨h, -⟩ | ⟨h, -⟩ | ⟨h, -⟩ | ⟨h, -⟩ | ⟨h, -⟩ <;> (dsimp only at h; omega)
      dsimp only
      rcases e1 with rfl | rfl | rfl | rfl | rfl | rfl | rfl <;> rcases e2 with rfl | rfl | rfl | rfl | rfl | rfl | rfl <;> first | exact absurd rfl hk | decide
    · unfold alikeV
      have : (k == k') = false := by rw [beq_eq_false_iff_ne]; exact hk
      simp [this]
theorem tyK_ne {k : Int} (h : k ≠ 4) : (tyK k = 75) = False := by
  unfold tyK
  repeat' split
  all_goals first | contradiction | simp
theorem zero_sz (x : Nat) (hx : x < 2 ^ 64) : (FloatKind.f64.format.order x 0 == some .eq) = decide (sz x = 0) := by
  rw [zero_order x hx, Bool.eq_iff_iff]
  unfold sz
  simp
  omega
end Go.Proofs.YtmpdhmdmfmgamaaDoor
