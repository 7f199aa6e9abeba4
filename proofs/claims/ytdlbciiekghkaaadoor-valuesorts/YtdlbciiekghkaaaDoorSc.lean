import Derived.Test.YtdlbciiekghkaaaDoorSb
import Derived.Shelf.GgSortFunc.Insertion
import Derived.Shelf.Abstract
namespace Go.Proofs.YtdlbciiekghkaaaDoor
open Go.RowKit FM
theorem bt' {w w1 w2 : World} (h : Below w.heap.size w w1) (k : Below w1.heap.size w1 w2) : Below w.heap.size w w2 := h.trans (k.mono h.size)
attribute [local go_sem] bits_run run_store_float ta56 ta57 ta58 ta59 ta79 ta81 ta82 m56 m57 m58 m59 m79 m81 m82
theorem tb58 (v : Value) (w : World) : (Instr.typeAssert (.iface 58 v) 63 58 false).run Tryd.prog w = .ok v w := by
  simp [Instr.typeAssert, run_underlying Tryd.underlying58]
theorem tb59 (v : Value) (w : World) : (Instr.typeAssert (.iface 59 v) 63 59 false).run Tryd.prog w = .ok v w := by
  simp [Instr.typeAssert, run_underlying Tryd.underlying59]
theorem tb79 (v : Value) (w : World) : (Instr.typeAssert (.iface 79 v) 63 79 false).run Tryd.prog w = .ok v w := by
  simp [Instr.typeAssert, run_underlying Tryd.underlying79]
theorem tb81 (v : Value) (w : World) : (Instr.typeAssert (.iface 81 v) 63 81 false).run Tryd.prog w = .ok v w := by
  simp [Instr.typeAssert, run_underlying Tryd.underlying81]
theorem tb82 (v : Value) (w : World) : (Instr.typeAssert (.iface 82 v) 63 82 false).run Tryd.prog w = .ok v w := by
  simp [Instr.typeAssert, run_underlying Tryd.underlying82]
attribute [local go_sem] tb58 tb59 tb79 tb81 tb82
/-- What a value tells of its kind. -/
def fK (k : Int) : FuncId := if k = 1 then 128 else if k = 2 then 129 else if k = 3 then 130 else if k = 4 then 131 else if k = 5 then 132 else if k = 6 then 133 else 134
theorem enK (k : Int) (args : Array Value) (w : World) : (callFunc (fK k) args).run Tryd.prog w = .ok (.enter (fK k) args) w := by
  unfold fK
  repeat' split
  · exact Go.Proofs.enters_of Tryd.func128 (by kernel_rfl) rfl args w
  · exact Go.Proofs.enters_of Tryd.func129 (by kernel_rfl) rfl args w
  · exact Go.Proofs.enters_of Tryd.func130 (by kernel_rfl) rfl args w
  · exact Go.Proofs.enters_of Tryd.func131 (by kernel_rfl) rfl args w
  · exact Go.Proofs.enters_of Tryd.func132 (by kernel_rfl) rfl args w
  · exact Go.Proofs.enters_of Tryd.func133 (by kernel_rfl) rfl args w
  · exact Go.Proofs.enters_of Tryd.func134 (by kernel_rfl) rfl args w
theorem kd1 (w : World) : Calls Tryd.prog 128 #[.agg #[]] w fun e w' => e = .returned (.int .i64 1) ∧ Below w.heap.size w w' := by
  go_enter Tryd.func128, Tryd.ntmps128
  go_wp2
  go_ret
  exact ⟨rfl, (Below.refl _ _).alloc (Nat.le_refl _) _⟩
theorem kd2 (w : World) : Calls Tryd.prog 129 #[.agg #[]] w fun e w' => e = .returned (.int .i64 2) ∧ Below w.heap.size w w' := by
  go_enter Tryd.func129, Tryd.ntmps129
  go_wp2
  go_ret
  exact ⟨rfl, (Below.refl _ _).alloc (Nat.le_refl _) _⟩
theorem kd3 (b : Bool) (w : World) : Calls Tryd.prog 130 #[.bool b] w fun e w' => e = .returned (.int .i64 3) ∧ Below w.heap.size w w' := by
  go_enter Tryd.func130, Tryd.ntmps130
  go_wp2
  go_ret
  exact ⟨rfl, Below.refl _ _⟩
theorem kd4 (b : Nat) (w : World) : Calls Tryd.prog 131 #[.float .f64 b] w fun e w' => e = .returned (.int .i64 4) ∧ Below w.heap.size w w' := by
  go_enter Tryd.func131, Tryd.ntmps131
  go_wp2
  go_ret
  exact ⟨rfl, Below.refl _ _⟩
theorem kd5 (s : ByteArray) (w : World) : Calls Tryd.prog 132 #[.string s] w fun e w' => e = .returned (.int .i64 5) ∧ Below w.heap.size w w' := by
  go_enter Tryd.func132, Tryd.ntmps132
  go_wp2
  go_ret
  exact ⟨rfl, Below.refl _ _⟩
theorem kd6 (i : Int) (w : World) : Calls Tryd.prog 133 #[.int .i64 i] w fun e w' => e = .returned (.int .i64 6) ∧ Below w.heap.size w w' := by
  go_enter Tryd.func133, Tryd.ntmps133
  go_wp2
  go_ret
  exact ⟨rfl, Below.refl _ _⟩
theorem kd7 (i : Int) (w : World) : Calls Tryd.prog 134 #[.int .i64 i] w fun e w' => e = .returned (.int .i64 7) ∧ Below w.heap.size w w' := by
  go_enter Tryd.func134, Tryd.ntmps134
  go_wp2
  go_ret
  exact ⟨rfl, Below.refl _ _⟩
theorem kind_any (v : VV) (h : v.good = true) (w : World) : Calls Tryd.prog (fK v.k) #[inK v] w fun e w' => e = .returned (.int .i64 v.k) ∧ Below w.heap.size w w' := by
  obtain ⟨k, b, x, s, i⟩ := v
  rcases good_cases h with ⟨rfl, rfl, rfl, rfl, rfl⟩ | ⟨rfl, rfl, rfl, rfl, rfl⟩ | ⟨rfl, rfl, rfl, rfl⟩ | ⟨rfl, rfl, rfl, rfl⟩ | ⟨rfl, rfl, rfl, rfl, hs⟩ | ⟨rfl, rfl, rfl, rfl, -, -⟩ | ⟨rfl, rfl, rfl, rfl, -, -⟩
  · exact kd1 w
  · exact kd2 w
  · exact kd3 b w
  · exact kd4 x w
  · exact kd5 s w
  · exact kd6 i w
  · exact kd7 i w
theorem meth_any (v : VV) (h : v.good = true) (w : World) : (method 272 (tyK v.k) (inK v) "cameo/value.kind").run Tryd.prog w = .ok (fK v.k, inK v) w := by
  obtain ⟨k, b, x, s, i⟩ := v
  rcases good_cases h with ⟨rfl, rfl, rfl, rfl, rfl⟩ | ⟨rfl, rfl, rfl, rfl, rfl⟩ | ⟨rfl, rfl, rfl, rfl⟩ | ⟨rfl, rfl, rfl, rfl⟩ | ⟨rfl, rfl, rfl, rfl, hs⟩ | ⟨rfl, rfl, rfl, rfl, -, -⟩ | ⟨rfl, rfl, rfl, rfl, -, -⟩
  · exact m56 w
  · exact m57 w
  · exact m58 b w
  · exact m59 x w
  · exact m79 s w
  · exact m81 i w
  · exact m82 i w
set_option maxRecDepth 100000 in
theorem compare_ne (a b : VV) (ha : a.good = true) (hb : b.good = true) (hne : a.k ≠ b.k) (w : World) : Calls Tryd.prog 45 #[a.ifc, b.ifc] w fun e w' => e = .returned (.int .i64 (cmpI a.k b.k)) ∧ Below w.heap.size w w' := by
  rw [ifc_eq a, ifc_eq b]
  have hma := meth_any a ha
  have hmb := meth_any b hb
  have hea := enK a.k
  have heb := enK b.k
  have HA := hide (kind_any a ha)
  have HB := hide (kind_any b hb)
  have HC := hide (Tryd.cmp_Compare_int a.k b.k)
  rw [compareInt_eq] at HC
  have hn : (a.k == b.k) = false := by rw [beq_eq_false_iff_ne]; exact hne
  have hn2 : (a.k != b.k) = true := by rw [bne, hn]; rfl
  clear ha hb hne
  generalize fK a.k = fa at *
  generalize fK b.k = fb at *
  generalize tyK a.k = ta at *
  generalize tyK b.k = tb at *
  generalize inK a = ia at *
  generalize inK b = ib at *
  generalize a.k = ka at *
  generalize b.k = kb at *
  go_enter Tryd.func45, Tryd.ntmps45
  go_wp2_with fail
  refine (unhide HA _).mono ?_
  rintro e w1 ⟨rfl, hb1⟩
  go_wp2_with fail
  refine (unhide HB _).mono ?_
  rintro e w2 ⟨rfl, hb2⟩
  have hB2 := bt' hb1 hb2
  clear hb1 hb2
  go_wp2_with fail
  refine (unhide HA _).mono ?_
  rintro e w3 ⟨rfl, hb3⟩
  have hB3 := bt' hB2 hb3
  clear hB2 hb3
  go_wp2_with fail
  refine (unhide HB _).mono ?_
  rintro e w4 ⟨rfl, hb4⟩
  have hB4 := bt' hB3 hb4
  clear hB3 hb4
  go_wp2_with fail
  refine (unhide HC _).mono ?_
  rintro e w5 ⟨rfl, rfl⟩
  go_wp2
  go_ret
  exact ⟨rfl, hB4⟩
set_option maxRecDepth 100000 in
theorem compare1 (w : World) : Calls Tryd.prog 45 #[.iface 56 (.agg #[]), .iface 56 (.agg #[])] w fun e w' => e = .returned (.int .i64 (0)) ∧ Below w.heap.size w w' := by
  go_enter Tryd.func45, Tryd.ntmps45
  go_wp2_with fail
  refine (kd1 _).mono ?_
  rintro e w1 ⟨rfl, hb1⟩
  go_wp2_with fail
  refine (kd1 _).mono ?_
  rintro e w2 ⟨rfl, hb2⟩
  have hB2 := bt' hb1 hb2
  clear hb1 hb2
  go_wp2
  go_ret
  exact ⟨rfl, hB2⟩
set_option maxRecDepth 100000 in
theorem compare2 (w : World) : Calls Tryd.prog 45 #[.iface 57 (.agg #[]), .iface 57 (.agg #[])] w fun e w' => e = .returned (.int .i64 (0)) ∧ Below w.heap.size w w' := by
  go_enter Tryd.func45, Tryd.ntmps45
  go_wp2_with fail
  refine (kd2 _).mono ?_
  rintro e w1 ⟨rfl, hb1⟩
  go_wp2_with fail
  refine (kd2 _).mono ?_
  rintro e w2 ⟨rfl, hb2⟩
  have hB2 := bt' hb1 hb2
  clear hb1 hb2
  go_wp2
  go_ret
  exact ⟨rfl, hB2⟩
set_option maxRecDepth 100000 in
theorem compare3 (a b : Bool) (w : World) : Calls Tryd.prog 45 #[.iface 58 (.bool a), .iface 58 (.bool b)] w fun e w' => e = .returned (.int .i64 (cmpB a b)) ∧ Below w.heap.size w w' := by
  go_enter Tryd.func45, Tryd.ntmps45
  go_wp2_with fail
  refine (kd3 a _).mono ?_
  rintro e w1 ⟨rfl, hb1⟩
  go_wp2_with fail
  refine (kd3 b _).mono ?_
  rintro e w2 ⟨rfl, hb2⟩
  have hB2 := bt' hb1 hb2
  clear hb1 hb2
  go_wp2_with fail
  refine (cbools_any a b _).mono ?_
  rintro e w3 ⟨rfl, rfl⟩
  go_wp2
  go_ret
  exact ⟨rfl, hB2⟩
set_option maxRecDepth 100000 in
theorem compare4 (a b : Nat) (w : World) (ha : a < 2 ^ 64) (hb : b < 2 ^ 64) : Calls Tryd.prog 45 #[.iface 59 (.float .f64 a), .iface 59 (.float .f64 b)] w fun e w' => e = .returned (.int .i64 (cmpN a b)) ∧ Below w.heap.size w w' := by
  have HN := hide (cnum_any a b ha hb)
  clear ha hb
  go_enter Tryd.func45, Tryd.ntmps45
  go_wp2_with fail
  refine (kd4 a _).mono ?_
  rintro e w1 ⟨rfl, hb1⟩
  go_wp2_with fail
  refine (kd4 b _).mono ?_
  rintro e w2 ⟨rfl, hb2⟩
  have hB2 := bt' hb1 hb2
  clear hb1 hb2
  go_wp2_with fail
  refine (unhide HN _).mono ?_
  rintro e w3 ⟨rfl, rfl⟩
  go_wp2
  go_ret
  exact ⟨rfl, hB2⟩
set_option maxRecDepth 100000 in
theorem compare6 (a b : Int) (w : World) : Calls Tryd.prog 45 #[.iface 81 (.int .i64 a), .iface 81 (.int .i64 b)] w fun e w' => e = .returned (.int .i64 (cmpI a b)) ∧ Below w.heap.size w w' := by
  go_enter Tryd.func45, Tryd.ntmps45
  go_wp2_with fail
  refine (kd6 a _).mono ?_
  rintro e w1 ⟨rfl, hb1⟩
  go_wp2_with fail
  refine (kd6 b _).mono ?_
  rintro e w2 ⟨rfl, hb2⟩
  have hB2 := bt' hb1 hb2
  clear hb1 hb2
  go_wp2_with fail
  refine (csym_any a b _).mono ?_
  rintro e w3 ⟨rfl, rfl⟩
  go_wp2
  go_ret
  exact ⟨rfl, hB2⟩
set_option maxRecDepth 100000 in
theorem compare7 (a b : Int) (w : World) : Calls Tryd.prog 45 #[.iface 82 (.int .i64 a), .iface 82 (.int .i64 b)] w fun e w' => e = .returned (.int .i64 (cmpI a b)) ∧ Below w.heap.size w w' := by
  go_enter Tryd.func45, Tryd.ntmps45
  go_wp2_with fail
  refine (kd7 a _).mono ?_
  rintro e w1 ⟨rfl, hb1⟩
  go_wp2_with fail
  refine (kd7 b _).mono ?_
  rintro e w2 ⟨rfl, hb2⟩
  have hB2 := bt' hb1 hb2
  clear hb1 hb2
  go_wp2_with fail
  refine (cobj_any a b _).mono ?_
  rintro e w3 ⟨rfl, rfl⟩
  go_wp2
  go_ret
  exact ⟨rfl, hB2⟩
set_option maxRecDepth 100000 in
theorem compare5 (a b : ByteArray) (w : World) (ha : a.size ≤ 1048576) (hb : b.size ≤ 1048576) (hT : Lib.Utf8Tabs 1 2 w) : Calls Tryd.prog 45 #[.iface 79 (.string a), .iface 79 (.string b)] w fun e w' => e = .returned (.int .i64 (cmI a b)) ∧ Below w.heap.size w w' := by
  have HN := hide (compare_any a b (by omega) (by omega))
  have HT := hide hT
  clear ha hb hT
  go_enter Tryd.func45, Tryd.ntmps45
  go_wp2_with fail
  refine (kd5 a _).mono ?_
  rintro e w1 ⟨rfl, hb1⟩
  go_wp2_with fail
  refine (kd5 b _).mono ?_
  rintro e w2 ⟨rfl, hb2⟩
  have hB2 := bt' hb1 hb2
  clear hb1 hb2
  go_wp2_with fail
  refine (unhide HN _ (tabs_below (unhide HT) hB2)).mono ?_
  rintro e w3 ⟨rfl, hb3⟩
  have hB3 := bt' hB2 hb3
  go_wp2
  go_ret
  exact ⟨rfl, hB3⟩
/-- compare, of two values that are well formed. -/
theorem compareV_any (a b : VV) (ha : a.good = true) (hb : b.good = true) (hx : a.x < 2 ^ 64) (hy : b.x < 2 ^ 64) (w : World) (hT : Lib.Utf8Tabs 1 2 w) : Calls Tryd.prog 45 #[a.ifc, b.ifc] w fun e w' => e = .returned (.int .i64 (cmpV a b)) ∧ Below w.heap.size w w' := by
  by_cases hk : a.k = b.k
  · obtain ⟨k, c, x, s, i⟩ := a
    obtain ⟨k', c', x', s', i'⟩ := b
    dsimp only at hk
    subst hk
    rcases good_cases ha with ⟨rfl, rfl, rfl, rfl, rfl⟩ | ⟨rfl, rfl, rfl, rfl, rfl⟩ | ⟨rfl, rfl, rfl, rfl⟩ | ⟨rfl, rfl, rfl, rfl⟩ | ⟨rfl, rfl, rfl, rfl, hs⟩ | ⟨rfl, rfl, rfl, rfl, -, -⟩ | ⟨rfl, rfl, rfl, rfl, -, -⟩
    · exact compare1 w
    · exact compare2 w
    · exact compare3 c c' w
    · exact compare4 x x' w hx hy
    · have hs' : fitV s' = true := by
        rcases good_cases hb with ⟨h, -⟩ | ⟨h, -⟩ | ⟨h, -⟩ | ⟨h, -⟩ | ⟨-, -, -, -, h⟩ | ⟨h, -⟩ | ⟨h, -⟩ <;> first | exact h | (exfalso; dsimp only at h; omega)
      unfold fitV at hs hs'
      simp at hs hs'
      have e : cmpV ⟨5, false, 0, s, 0⟩ ⟨5, c', x', s', i'⟩ = cmI s s' := by
        unfold cmI okC' vS
        rw [hs.2, hs'.2]
        rfl
      rw [e]
      exact compare5 s s' w hs.1 hs'.1 hT
    · exact compare6 i i' w
    · exact compare7 i i' w
  · have e : cmpV a b = cmpI a.k b.k := by unfold cmpV; rw [if_pos hk]
    rw [e]
    exact compare_ne a b ha hb hk w
end Go.Proofs.YtdlbciiekghkaaaDoor
