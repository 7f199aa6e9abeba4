import Derived.Test.YtmgflhhealdfoaaGreatDoorQf
import Derived.Test.YtmgflhhealdfoaaGreatDoorQd
set_option linter.all false
namespace Go.Proofs.YtmgflhhealdfoaaGreatDoor
section
open Go.RowKit FM
attribute [local go_sem] bits_run
theorem m56 (w : World) : (method 627 159 (.agg #[]) "cameo/value.kind").run Tryz.prog w = .ok (481, .agg #[]) w := by kernel_rfl
theorem m57 (w : World) : (method 627 160 (.agg #[]) "cameo/value.kind").run Tryz.prog w = .ok (482, .agg #[]) w := by kernel_rfl
theorem m58 (b : Bool) (w : World) : (method 627 161 (.bool b) "cameo/value.kind").run Tryz.prog w = .ok (483, .bool b) w := by kernel_rfl
theorem m59 (x : Nat) (w : World) : (method 627 162 (.float .f64 x) "cameo/value.kind").run Tryz.prog w = .ok (484, .float .f64 x) w := by kernel_rfl
theorem m79 (s : ByteArray) (w : World) : (method 627 163 (.string s) "cameo/value.kind").run Tryz.prog w = .ok (485, .string s) w := by kernel_rfl
theorem m81 (i : Int) (w : World) : (method 627 164 (.int .i64 i) "cameo/value.kind").run Tryz.prog w = .ok (486, .int .i64 i) w := by kernel_rfl
theorem m82 (i : Int) (w : World) : (method 627 165 (.int .i64 i) "cameo/value.kind").run Tryz.prog w = .ok (487, .int .i64 i) w := by kernel_rfl
theorem run_store_floatD (P : Program) (w : World) (a : Addr) (m : Mode) (k : FloatKind) (x : Nat) : (store a (.float k x) m).run P w = stored P w a (.float k x) m := run_store P w a _ m rfl
theorem ta56 (u : TypeId) (v : Value) (w : World) : (Instr.typeAssert (.iface u v) 132 159 true).run Tryz.prog w = .ok (if u = 159 then .tuple #[v, .bool true] else .tuple #[.agg #[], .bool false]) w := by
  by_cases h : u = 159 <;> simp [Instr.typeAssert, run_underlying Tryz.underlying159, h, Tryz.zeroValue159]
theorem ta57 (u : TypeId) (v : Value) (w : World) : (Instr.typeAssert (.iface u v) 132 160 true).run Tryz.prog w = .ok (if u = 160 then .tuple #[v, .bool true] else .tuple #[.agg #[], .bool false]) w := by
  by_cases h : u = 160 <;> simp [Instr.typeAssert, run_underlying Tryz.underlying160, h, Tryz.zeroValue160]
theorem ta58 (u : TypeId) (v : Value) (w : World) : (Instr.typeAssert (.iface u v) 132 161 true).run Tryz.prog w = .ok (if u = 161 then .tuple #[v, .bool true] else .tuple #[.bool false, .bool false]) w := by
  by_cases h : u = 161 <;> simp [Instr.typeAssert, run_underlying Tryz.underlying161, h, Tryz.zeroValue161]
theorem ta59 (u : TypeId) (v : Value) (w : World) : (Instr.typeAssert (.iface u v) 132 162 true).run Tryz.prog w = .ok (if u = 162 then .tuple #[v, .bool true] else .tuple #[.float .f64 0, .bool false]) w := by
  by_cases h : u = 162 <;> simp [Instr.typeAssert, run_underlying Tryz.underlying162, h, Tryz.zeroValue162]
theorem ta79 (u : TypeId) (v : Value) (w : World) : (Instr.typeAssert (.iface u v) 132 163 true).run Tryz.prog w = .ok (if u = 163 then .tuple #[v, .bool true] else .tuple #[.string ⟨#[]⟩, .bool false]) w := by
  by_cases h : u = 163 <;> simp [Instr.typeAssert, run_underlying Tryz.underlying163, h, Tryz.zeroValue163]
theorem ta81 (u : TypeId) (v : Value) (w : World) : (Instr.typeAssert (.iface u v) 132 164 true).run Tryz.prog w = .ok (if u = 164 then .tuple #[v, .bool true] else .tuple #[.int .i64 0, .bool false]) w := by
  by_cases h : u = 164 <;> simp [Instr.typeAssert, run_underlying Tryz.underlying164, h, Tryz.zeroValue164]
theorem ta82 (u : TypeId) (v : Value) (w : World) : (Instr.typeAssert (.iface u v) 132 165 true).run Tryz.prog w = .ok (if u = 165 then .tuple #[v, .bool true] else .tuple #[.int .i64 0, .bool false]) w := by
  by_cases h : u = 165 <;> simp [Instr.typeAssert, run_underlying Tryz.underlying165, h, Tryz.zeroValue165]
attribute [local go_sem] m56 m57 m58 m59 m79 m81 m82 run_store_floatD ta56 ta57 ta58 ta59 ta79 ta81 ta82
theorem below2 (w : World) (o1 o2 : Obj) : Below w.heap.size w ((w.alloc o1).alloc o2) := ((Below.refl _ _).alloc (Nat.le_refl _) _).alloc (by simp) _
theorem below3 (w : World) (o1 o2 o3 : Obj) : Below w.heap.size w (((w.alloc o1).alloc o2).alloc o3) := (below2 w o1 o2).alloc (by simp; omega) _
set_option maxRecDepth 100000 in
theorem outside1 (w : World) : Calls Tryz.prog 140 #[.iface 159 (.agg #[])] w fun e w' => e = .returned (VV.agg ⟨1, false, 0, ByteArray.empty, 0⟩) ∧ Below w.heap.size w w' := by
  unfold VV.agg
  go_enter Tryz.func140, Tryz.ntmps140
  go_wp2
  simp [bodyPost, results, Tryz.results140, go_sem]
  exact ⟨rfl, below3 ..⟩
set_option maxRecDepth 100000 in
theorem outside3 (b : Bool) (w : World) : Calls Tryz.prog 140 #[.iface 161 (.bool b)] w fun e w' => e = .returned (VV.agg ⟨3, b, 0, ByteArray.empty, 0⟩) ∧ Below w.heap.size w w' := by
  unfold VV.agg
  go_enter Tryz.func140, Tryz.ntmps140
  go_wp2
  simp [bodyPost, results, Tryz.results140, go_sem]
  exact ⟨rfl, below2 ..⟩
theorem ifcV_good {v : VV} (h : v.good = true) : ifcV v = v.ifc := by
  unfold VV.good goodV at h
  unfold ifcV inI
  rw [if_pos h]
end
section
open Go.RowKit FM
attribute [local go_sem] bits_run run_store_floatD
theorem zero_order (x : Nat) (hx : x < 2 ^ 64) : (FloatKind.f64.format.order x 0 == some .eq) = (decide (x = 0) || decide (x = 9223372036854775808)) := by
  rw [eq_order x 0 hx (by decide)]
  unfold equalV same0V sameV
  have e1 : isN 0 = false := by decide +kernel
  have e2 : sz 0 = 0 := by decide +kernel
  rw [e1, e2]
  by_cases h : sz x = 0
  · rw [sz0_nan h]
    unfold sz at h
    have : x = 0 ∨ x = 9223372036854775808 := by omega
    rcases this with rfl | rfl <;> simp [sz]
  · have h1 : ¬ x = 0 := by rintro rfl; exact h e2
    have h2 : ¬ x = 9223372036854775808 := by rintro rfl; exact h (by decide +kernel)
    simp [h, h1, h2]
theorem quo_pos (w : World) : (binOp .quo 22 (.float .f64 4607182418800017408) (.float .f64 0)).run Tryz.prog w = .ok (.float .f64 9218868437227405312) w := by kernel_rfl
theorem quo_neg (w : World) : (binOp .quo 22 (.float .f64 4607182418800017408) (.float .f64 9223372036854775808)).run Tryz.prog w = .ok (.float .f64 18442240474082181120) w := by kernel_rfl
/-- Five cells of a block that may be written. -/
structure Five (w : World) (B : Nat) (c0 c1 c2 c3 c4 : Value) : Prop where
  h0 : w.cell? ⟨B, 0, none⟩ = some c0
  h1 : w.cell? ⟨B, 1, none⟩ = some c1
  h2 : w.cell? ⟨B, 2, none⟩ = some c2
  h3 : w.cell? ⟨B, 3, none⟩ = some c3
  h4 : w.cell? ⟨B, 4, none⟩ = some c4
  fz : ∀ j, w.frozen? ⟨B, j, none⟩ = false
  lt : B < w.heap.size
theorem five_new (w : World) (B : Nat) (c0 c1 c2 c3 c4 : Value) (t : TypeId) (hB : B = w.heap.size) : Five (w.alloc (Obj.cells #[c0, c1, c2, c3, c4] t)) B c0 c1 c2 c3 c4 := by
  subst hB
  refine ⟨?_, ?_, ?_, ?_, ?_, fun j => ?_, ?_⟩ <;> simp [go_sem]
theorem five_below {w w' : World} {B : Nat} {c0 c1 c2 c3 c4 : Value} (h : Five w B c0 c1 c2 c3 c4) (hb : Below w.heap.size w w') : Five w' B c0 c1 c2 c3 c4 :=
  ⟨(hb.cell h.lt).trans h.h0, (hb.cell h.lt).trans h.h1, (hb.cell h.lt).trans h.h2, (hb.cell h.lt).trans h.h3, (hb.cell h.lt).trans h.h4, fun j => (hb.frozen h.lt).trans (h.fz j), Nat.lt_of_lt_of_le h.lt hb.size⟩
theorem set5 {w W : World} {B : Nat} {v0 v1 v2 v3 v4 : Value} (h : Below w.heap.size w W) (hB : w.heap.size ≤ B) :
    Below w.heap.size w (((((W.setCell ⟨B, 0, none⟩ v0).setCell ⟨B, 1, none⟩ v1).setCell ⟨B, 2, none⟩ v2).setCell ⟨B, 3, none⟩ v3).setCell ⟨B, 4, none⟩ v4) :=
  ((((h.setCell hB _).setCell hB _).setCell hB _).setCell hB _).setCell hB _

def errB (b : Bool) : Int := if b then 0 else 5
theorem check_any (v : VV) (w : World) (hT : Lib.Utf8Tabs 1 2 w) : Calls Tryz.prog 47 #[v.agg] w fun e w' => e = .returned (.int .i64 (errB v.good)) ∧ Below w.heap.size w w' := by
  have HI := hide (inside_any v.k v.b v.x v.s v.i)
  have HT := hide hT
  clear hT
  unfold VV.good
  generalize goodV v.k v.b v.x v.s v.i = g at *
  generalize ifcV ⟨v.k, v.b, v.x, v.s, v.i⟩ = f at *
  obtain ⟨k, b, x, s, i⟩ := v
  unfold VV.agg at *
  dsimp only at *
  cases g
  all_goals
    go_enter Tryz.func47, Tryz.ntmps47
    go_wp2_with fail
    refine (unhide HI _ (tabs_below (unhide HT) ((Below.refl _ _).alloc (Nat.le_refl _) _))).mono ?_
    rintro e w1 ⟨rfl, hb⟩
    go_wp2
    go_ret
    exact ⟨rfl, ((Below.refl _ _).alloc (Nat.le_refl _) _).trans (hb.mono (by simp))⟩
