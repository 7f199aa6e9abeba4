import Derived.Test.YtmfhjbmgbbkicaaDoorVb
import Derived.LoopTactic
namespace Go.Proofs.YtmfhjbmgbbkicaaDoor
open Go.RowKit FM
attribute [local go_sem] bits_run
theorem run_store_float (P : Program) (w : World) (a : Addr) (m : Mode) (k : FloatKind) (x : Nat) : (store a (.float k x) m).run P w = stored P w a (.float k x) m := run_store P w a _ m rfl
theorem ta56 (u : TypeId) (v : Value) (w : World) : (Instr.typeAssert (.iface u v) 94 103 true).run Tryd.prog w = .ok (if u = 103 then .tuple #[v, .bool true] else .tuple #[.agg #[], .bool false]) w := by
  by_cases h : u = 103 <;> simp [Instr.typeAssert, run_underlying Tryd.underlying103, h, Tryd.zeroValue103]
theorem ta57 (u : TypeId) (v : Value) (w : World) : (Instr.typeAssert (.iface u v) 94 104 true).run Tryd.prog w = .ok (if u = 104 then .tuple #[v, .bool true] else .tuple #[.agg #[], .bool false]) w := by
  by_cases h : u = 104 <;> simp [Instr.typeAssert, run_underlying Tryd.underlying104, h, Tryd.zeroValue104]
theorem ta58 (u : TypeId) (v : Value) (w : World) : (Instr.typeAssert (.iface u v) 94 105 true).run Tryd.prog w = .ok (if u = 105 then .tuple #[v, .bool true] else .tuple #[.bool false, .bool false]) w := by
  by_cases h : u = 105 <;> simp [Instr.typeAssert, run_underlying Tryd.underlying105, h, Tryd.zeroValue105]
theorem ta59 (u : TypeId) (v : Value) (w : World) : (Instr.typeAssert (.iface u v) 94 106 true).run Tryd.prog w = .ok (if u = 106 then .tuple #[v, .bool true] else .tuple #[.float .f64 0, .bool false]) w := by
  by_cases h : u = 106 <;> simp [Instr.typeAssert, run_underlying Tryd.underlying106, h, Tryd.zeroValue106]
theorem ta79 (u : TypeId) (v : Value) (w : World) : (Instr.typeAssert (.iface u v) 94 108 true).run Tryd.prog w = .ok (if u = 108 then .tuple #[v, .bool true] else .tuple #[.string ⟨#[]⟩, .bool false]) w := by
  by_cases h : u = 108 <;> simp [Instr.typeAssert, run_underlying Tryd.underlying108, h, Tryd.zeroValue108]
theorem ta81 (u : TypeId) (v : Value) (w : World) : (Instr.typeAssert (.iface u v) 94 109 true).run Tryd.prog w = .ok (if u = 109 then .tuple #[v, .bool true] else .tuple #[.int .i64 0, .bool false]) w := by
  by_cases h : u = 109 <;> simp [Instr.typeAssert, run_underlying Tryd.underlying109, h, Tryd.zeroValue109]
theorem ta82 (u : TypeId) (v : Value) (w : World) : (Instr.typeAssert (.iface u v) 94 110 true).run Tryd.prog w = .ok (if u = 110 then .tuple #[v, .bool true] else .tuple #[.int .i64 0, .bool false]) w := by
  by_cases h : u = 110 <;> simp [Instr.typeAssert, run_underlying Tryd.underlying110, h, Tryd.zeroValue110]
attribute [local go_sem] run_store_float ta56 ta57 ta58 ta59 ta79 ta81 ta82
theorem below2 (w : World) (o1 o2 : Obj) : Below w.heap.size w ((w.alloc o1).alloc o2) := ((Below.refl _ _).alloc (Nat.le_refl _) _).alloc (by simp) _
theorem below3 (w : World) (o1 o2 o3 : Obj) : Below w.heap.size w (((w.alloc o1).alloc o2).alloc o3) := (below2 w o1 o2).alloc (by simp; omega) _
/-- A block of five cells behind a call that kept it: not frozen. -/
theorem thaw {w w1 : World} {c0 c1 c2 c3 c4 : Value} {t : TypeId} (hb : Below (w.alloc (Obj.cells #[c0, c1, c2, c3, c4] t)).heap.size (w.alloc (Obj.cells #[c0, c1, c2, c3, c4] t)) w1) (j : Nat) :
    w1.frozen? ⟨w.heap.size, j, none⟩ = false := by
  rw [hb.frozen (p := ⟨w.heap.size, j, none⟩) (by simp)]
  simp [go_sem]
theorem ifcV_good {v : VV} (h : v.good = true) : ifcV v = v.ifc := by
  unfold VV.good goodV at h
  unfold ifcV inI
  rw [if_pos h]
theorem ifcV_bad {v : VV} (h : v.good = false) : ifcV v = .nilIface := by
  unfold VV.good goodV at h
  unfold ifcV inI
  rw [if_neg (by rw [h]; simp)]
theorem inside_good (v : VV) (h : v.good = true) (w : World) (hT : Lib.Utf8Tabs 1 2 w) : Calls Tryd.prog 32 #[v.agg] w fun e w' => e = .returned (.tuple #[v.ifc, .bool true]) ∧ Below w.heap.size w w' := by
  have := inside_any v.k v.b v.x v.s v.i w hT
  rw [show goodV v.k v.b v.x v.s v.i = true from h, ifcV_good (v := ⟨v.k, v.b, v.x, v.s, v.i⟩) h] at this
  exact this
theorem inside_bad (v : VV) (h : v.good = false) (w : World) (hT : Lib.Utf8Tabs 1 2 w) : Calls Tryd.prog 32 #[v.agg] w fun e w' => e = .returned (.tuple #[.nilIface, .bool false]) ∧ Below w.heap.size w w' := by
  have := inside_any v.k v.b v.x v.s v.i w hT
  rw [show goodV v.k v.b v.x v.s v.i = false from h, ifcV_bad (v := ⟨v.k, v.b, v.x, v.s, v.i⟩) h] at this
  exact this
end Go.Proofs.YtmfhjbmgbbkicaaDoor
