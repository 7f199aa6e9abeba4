import Derived.Test.YtcflglloopgieaaDoorQa
import Derived.Below
import Derived.LoopTactic

/-! Vb -/
namespace Go.Proofs.YtcflglloopgieaaDoor
open Go.RowKit FM
attribute [local go_sem] bits_run

/-- A value of the program, field by field. -/
structure VV where
  k : Int
  b : Bool
  x : Nat
  s : ByteArray
  i : Int
def VV.agg (v : VV) : Value := .agg #[.int .i64 v.k, .bool v.b, .float .f64 v.x, .string v.s, .int .i64 v.i]
def VV.ifc (v : VV) : Value :=
  if v.k = 1 then .iface 113 (.agg #[]) else if v.k = 2 then .iface 114 (.agg #[]) else if v.k = 3 then .iface 115 (.bool v.b) else if v.k = 4 then .iface 109 (.float .f64 v.x)
  else if v.k = 5 then .iface 117 (.string v.s) else if v.k = 6 then .iface 118 (.int .i64 v.i) else .iface 119 (.int .i64 v.i)
def strV (k : Int) (b : Bool) (x : Nat) (s : ByteArray) (i : Int) : Bool :=
  b && k != 3 || x != 0 && k != 4 || !s.toList.isEmpty && k != 5 || i != 0 && k != 6 && k != 7

set_option maxHeartbeats 1000000 in
theorem strays_any (k : Int) (b : Bool) (x : Nat) (s : ByteArray) (i : Int) (w : World) :
    Calls Tryd.prog 85 #[.agg #[.int .i64 k, .bool b, .float .f64 x, .string s, .int .i64 i]] w fun e w' => e = .returned (.bool (strV k b x s i)) ∧ Below w.heap.size w w' := by
  unfold strV
  cases b
  all_goals
    go_enter Tryd.func85, Tryd.ntmps85
    go_wp2
    all_goals
      go_ret
      refine ⟨?_, (Below.refl _ _).alloc (Nat.le_refl _) _⟩
      simp [*]
def fitV (s : ByteArray) : Bool := decide (s.size ≤ 1048576) && M.valid false (nums s)
theorem fits_any (s : ByteArray) (w : World) (hT : Lib.Utf8Tabs 1 2 w) :
    Calls Tryd.prog 86 #[.string s] w fun e w' => e = .returned (.bool (fitV s)) ∧ Below w.heap.size w w' := by
  have HV := hide (valid_any s w hT)
  clear hT
  unfold fitV
  by_cases h : s.size ≤ 1048576
  · have h' : (s.size : Int) ≤ 1048576 := by omega
    go_enter Tryd.func86, Tryd.ntmps86
    go_wp2_with fail
    refine (unhide HV).mono ?_
    rintro e w1 ⟨rfl, hb⟩
    go_wp2
    go_ret
    refine ⟨?_, hb⟩
    rw [decide_eq_true h]
    rfl
  · have h' : ¬ (s.size : Int) ≤ 1048576 := by omega
    go_enter Tryd.func86, Tryd.ntmps86
    go_wp2
    go_ret
    exact ⟨rfl, Below.refl _ _⟩
def inG (st ft : Bool) (k i : Int) : Bool :=
  !st && (k == 1 || k == 2 || k == 3 || k == 4 || k == 5 && ft || k == 6 && decide (1 ≤ i) && decide (i ≤ 65536) || k == 7 && decide (1 ≤ i) && decide (i ≤ 65536))
def inI (st ft : Bool) (v : VV) : Value := if inG st ft v.k v.i then v.ifc else .nilIface
def goodV (k : Int) (b : Bool) (x : Nat) (s : ByteArray) (i : Int) : Bool := inG (strV k b x s i) (fitV s) k i
def ifcV (v : VV) : Value := inI (strV v.k v.b v.x v.s v.i) (fitV v.s) v
def VV.good (v : VV) : Bool := goodV v.k v.b v.x v.s v.i
/-- A block of five cells, and a call that kept it. -/
theorem five {w w1 : World} {c0 c1 c2 c3 c4 : Value} {t : TypeId} (hb : Below (w.alloc (Obj.cells #[c0, c1, c2, c3, c4] t)).heap.size (w.alloc (Obj.cells #[c0, c1, c2, c3, c4] t)) w1) :
    w1.cell? ⟨w.heap.size, 0, none⟩ = some c0 ∧ w1.cell? ⟨w.heap.size, 1, none⟩ = some c1 ∧ w1.cell? ⟨w.heap.size, 2, none⟩ = some c2 ∧ w1.cell? ⟨w.heap.size, 3, none⟩ = some c3 ∧ w1.cell? ⟨w.heap.size, 4, none⟩ = some c4 ∧
    Below w.heap.size w w1 ∧ w.heap.size < w1.heap.size := by
  have h0 := hb.cell (p := ⟨w.heap.size, 0, none⟩) (by simp)
  have h1 := hb.cell (p := ⟨w.heap.size, 1, none⟩) (by simp)
  have h2 := hb.cell (p := ⟨w.heap.size, 2, none⟩) (by simp)
  have h3 := hb.cell (p := ⟨w.heap.size, 3, none⟩) (by simp)
  have h4 := hb.cell (p := ⟨w.heap.size, 4, none⟩) (by simp)
  simp [go_sem] at h0 h1 h2 h3 h4
  refine ⟨h0, h1, h2, h3, h4, ((Below.refl _ _).alloc (Nat.le_refl _) _).trans (hb.mono (by simp)), ?_⟩
  have := hb.size
  simp at this
  omega
set_option maxHeartbeats 1000000 in
theorem inside_any (k : Int) (b : Bool) (x : Nat) (s : ByteArray) (i : Int) (w : World) (hT : Lib.Utf8Tabs 1 2 w) :
    Calls Tryd.prog 78 #[.agg #[.int .i64 k, .bool b, .float .f64 x, .string s, .int .i64 i]] w fun e w' => e = .returned (.tuple #[ifcV ⟨k, b, x, s, i⟩, .bool (goodV k b x s i)]) ∧ Below w.heap.size w w' := by
  have HS := hide (fun w => strays_any k b x s i w)
  have HF := hide (fun w (hT : Lib.Utf8Tabs 1 2 w) => fits_any s w hT)
  have HT := hide hT
  clear hT
  unfold goodV ifcV
  dsimp only
  generalize strV k b x s i = st at *
  generalize fitV s = ft at *
  cases st
  · by_cases e5 : k = 5
    · subst e5
      go_enter Tryd.func78, Tryd.ntmps78
      go_wp2_with fail
      refine (unhide HS _).mono ?_
      rintro e w1 ⟨rfl, hb⟩
      obtain ⟨c0, c1, c2, c3, c4, hB, hsz⟩ := five hb
      clear hb
      go_wp2_with fail
      refine (unhide HF _ (tabs_below (unhide HT) hB)).mono ?_
      rintro e w2 ⟨rfl, hb2⟩
      have d3 := hb2.cell (p := ⟨w.heap.size, 3, none⟩) hsz
      rw [c3] at d3
      cases ft
      · have d0 := hb2.cell (p := ⟨w.heap.size, 0, none⟩) hsz
        rw [c0] at d0
        go_wp2
        go_ret2
        exact ⟨by simp [inG, inI], hB.trans (hb2.mono hB.size)⟩
      · go_wp2
        go_ret2
        exact ⟨by simp [inG, inI, VV.ifc], hB.trans (hb2.mono hB.size)⟩
    · have hk : k = 1 ∨ k = 2 ∨ k = 3 ∨ k = 4 ∨ k = 6 ∨ k = 7 ∨ (k == 1) = false ∧ (k == 2) = false ∧ (k == 3) = false ∧ (k == 4) = false ∧ (k == 5) = false ∧ (k == 6) = false ∧ (k == 7) = false := by
        simp only [beq_eq_false_iff_ne]
        omega
      clear e5 HF HT
      rcases hk with rfl | rfl | rfl | rfl | rfl | rfl | ⟨e1, e2, e3, e4, e5, e6, e7⟩
      all_goals
        go_enter Tryd.func78, Tryd.ntmps78
        go_wp2_with fail
        refine (unhide HS _).mono ?_
        rintro e w1 ⟨rfl, hb⟩
        obtain ⟨c0, c1, c2, c3, c4, hB, hsz⟩ := five hb
        clear hb HS
        go_wp2
        all_goals
          go_ret2
          refine ⟨?_, hB⟩
          simp [inG, inI, VV.ifc, *]
          try omega
  · go_enter Tryd.func78, Tryd.ntmps78
    go_wp2_with fail
    refine (unhide HS _).mono ?_
    rintro e w1 ⟨rfl, hb⟩
    obtain ⟨c0, c1, c2, c3, c4, hB, hsz⟩ := five hb
    go_wp2
    go_ret2
    exact ⟨by simp [inG, inI], hB⟩
theorem empty_of {s : ByteArray} (h : s.toList.isEmpty = true) : s = ByteArray.empty := by
  cases s with
  | mk d =>
    rw [Lib.toList_data] at h
    have : d.toList = [] := by simpa using h
    have h2 : d = #[] := Array.toList_inj.1 (by simpa using this)
    subst h2; rfl
/-- What a well formed value can be. -/
theorem good_cases {k : Int} {b : Bool} {x : Nat} {s : ByteArray} {i : Int} (h : goodV k b x s i = true) :
    (k = 1 ∧ b = false ∧ x = 0 ∧ s = ByteArray.empty ∧ i = 0) ∨ (k = 2 ∧ b = false ∧ x = 0 ∧ s = ByteArray.empty ∧ i = 0) ∨ (k = 3 ∧ x = 0 ∧ s = ByteArray.empty ∧ i = 0) ∨ (k = 4 ∧ b = false ∧ s = ByteArray.empty ∧ i = 0) ∨
    (k = 5 ∧ b = false ∧ x = 0 ∧ i = 0 ∧ fitV s = true) ∨ (k = 6 ∧ b = false ∧ x = 0 ∧ s = ByteArray.empty ∧ 1 ≤ i ∧ i ≤ 65536) ∨ (k = 7 ∧ b = false ∧ x = 0 ∧ s = ByteArray.empty ∧ 1 ≤ i ∧ i ≤ 65536) := by
  have hs := @empty_of s
  unfold goodV inG strV at h
  generalize fitV s = ft at *
  generalize s.toList.isEmpty = q at *
  have hk : k = 1 ∨ k = 2 ∨ k = 3 ∨ k = 4 ∨ k = 5 ∨ k = 6 ∨ k = 7 := by
    simp at h
    omega
  rcases hk with rfl | rfl | rfl | rfl | rfl | rfl | rfl <;> cases b <;> cases q <;> simp at h hs <;> simp [h, hs]
theorem clone_any (s : ByteArray) (w : World) (h : s.size ≤ 1048576) : Calls Tryd.prog 59 #[.string s] w fun e w' => e = .returned (.string s) ∧ Below w.heap.size w w' := by
  have HC := hide (Tryd.stringslite_Clone s w (by omega))
  go_enter Tryd.func59, Tryd.ntmps59
  go_wp2_with fail
  refine (unhide HC).mono ?_
  rintro e w1 ⟨rfl, hb⟩
  go_wp2
  go_ret
  exact ⟨rfl, hb⟩
end Go.Proofs.YtcflglloopgieaaDoor

/-! Vc -/
namespace Go.Proofs.YtcflglloopgieaaDoor
open Go.RowKit FM
attribute [local go_sem] bits_run
theorem m56 (w : World) : (method 245 113 (.agg #[]) "cameo/value.kind").run Tryd.prog w = .ok (111, .agg #[]) w := by kernel_rfl
theorem m57 (w : World) : (method 245 114 (.agg #[]) "cameo/value.kind").run Tryd.prog w = .ok (112, .agg #[]) w := by kernel_rfl
theorem m58 (b : Bool) (w : World) : (method 245 115 (.bool b) "cameo/value.kind").run Tryd.prog w = .ok (113, .bool b) w := by kernel_rfl
theorem m59 (x : Nat) (w : World) : (method 245 109 (.float .f64 x) "cameo/value.kind").run Tryd.prog w = .ok (110, .float .f64 x) w := by kernel_rfl
theorem m79 (s : ByteArray) (w : World) : (method 245 117 (.string s) "cameo/value.kind").run Tryd.prog w = .ok (114, .string s) w := by kernel_rfl
theorem m81 (i : Int) (w : World) : (method 245 118 (.int .i64 i) "cameo/value.kind").run Tryd.prog w = .ok (115, .int .i64 i) w := by kernel_rfl
theorem m82 (i : Int) (w : World) : (method 245 119 (.int .i64 i) "cameo/value.kind").run Tryd.prog w = .ok (116, .int .i64 i) w := by kernel_rfl
theorem run_store_float (P : Program) (w : World) (a : Addr) (m : Mode) (k : FloatKind) (x : Nat) : (store a (.float k x) m).run P w = stored P w a (.float k x) m := run_store P w a _ m rfl
theorem ta56 (u : TypeId) (v : Value) (w : World) : (Instr.typeAssert (.iface u v) 104 113 true).run Tryd.prog w = .ok (if u = 113 then .tuple #[v, .bool true] else .tuple #[.agg #[], .bool false]) w := by
  by_cases h : u = 113 <;> simp [Instr.typeAssert, run_underlying Tryd.underlying113, h, Tryd.zeroValue113]
theorem ta57 (u : TypeId) (v : Value) (w : World) : (Instr.typeAssert (.iface u v) 104 114 true).run Tryd.prog w = .ok (if u = 114 then .tuple #[v, .bool true] else .tuple #[.agg #[], .bool false]) w := by
  by_cases h : u = 114 <;> simp [Instr.typeAssert, run_underlying Tryd.underlying114, h, Tryd.zeroValue114]
theorem ta58 (u : TypeId) (v : Value) (w : World) : (Instr.typeAssert (.iface u v) 104 115 true).run Tryd.prog w = .ok (if u = 115 then .tuple #[v, .bool true] else .tuple #[.bool false, .bool false]) w := by
  by_cases h : u = 115 <;> simp [Instr.typeAssert, run_underlying Tryd.underlying115, h, Tryd.zeroValue115]
theorem ta59 (u : TypeId) (v : Value) (w : World) : (Instr.typeAssert (.iface u v) 104 109 true).run Tryd.prog w = .ok (if u = 109 then .tuple #[v, .bool true] else .tuple #[.float .f64 0, .bool false]) w := by
  by_cases h : u = 109 <;> simp [Instr.typeAssert, run_underlying Tryd.underlying109, h, Tryd.zeroValue109]
theorem ta79 (u : TypeId) (v : Value) (w : World) : (Instr.typeAssert (.iface u v) 104 117 true).run Tryd.prog w = .ok (if u = 117 then .tuple #[v, .bool true] else .tuple #[.string ⟨#[]⟩, .bool false]) w := by
  by_cases h : u = 117 <;> simp [Instr.typeAssert, run_underlying Tryd.underlying117, h, Tryd.zeroValue117]
theorem ta81 (u : TypeId) (v : Value) (w : World) : (Instr.typeAssert (.iface u v) 104 118 true).run Tryd.prog w = .ok (if u = 118 then .tuple #[v, .bool true] else .tuple #[.int .i64 0, .bool false]) w := by
  by_cases h : u = 118 <;> simp [Instr.typeAssert, run_underlying Tryd.underlying118, h, Tryd.zeroValue118]
theorem ta82 (u : TypeId) (v : Value) (w : World) : (Instr.typeAssert (.iface u v) 104 119 true).run Tryd.prog w = .ok (if u = 119 then .tuple #[v, .bool true] else .tuple #[.int .i64 0, .bool false]) w := by
  by_cases h : u = 119 <;> simp [Instr.typeAssert, run_underlying Tryd.underlying119, h, Tryd.zeroValue119]
attribute [local go_sem] m56 m57 m58 m59 m79 m81 m82 run_store_float ta56 ta57 ta58 ta59 ta79 ta81 ta82
theorem below2 (w : World) (o1 o2 : Obj) : Below w.heap.size w ((w.alloc o1).alloc o2) := ((Below.refl _ _).alloc (Nat.le_refl _) _).alloc (by simp) _
theorem below3 (w : World) (o1 o2 o3 : Obj) : Below w.heap.size w (((w.alloc o1).alloc o2).alloc o3) := (below2 w o1 o2).alloc (by simp; omega) _
theorem kind5 (s : ByteArray) (w : World) : Calls Tryd.prog 114 #[.string s] w fun e w' => e = .returned (.int .i64 5) ∧ w' = w := by
  go_enter Tryd.func114, Tryd.ntmps114
  go_wp2
  go_ret
  exact ⟨rfl, rfl⟩
set_option maxRecDepth 100000 in
theorem outside1 (w : World) : Calls Tryd.prog 81 #[.iface 113 (.agg #[])] w fun e w' => e = .returned (VV.agg ⟨1, false, 0, ByteArray.empty, 0⟩) ∧ Below w.heap.size w w' := by
  unfold VV.agg
  go_enter Tryd.func81, Tryd.ntmps81
  go_wp2
  simp [bodyPost, results, Tryd.results81, go_sem]
  exact ⟨rfl, below3 ..⟩
set_option maxRecDepth 100000 in
theorem outside2 (w : World) : Calls Tryd.prog 81 #[.iface 114 (.agg #[])] w fun e w' => e = .returned (VV.agg ⟨2, false, 0, ByteArray.empty, 0⟩) ∧ Below w.heap.size w w' := by
  unfold VV.agg
  go_enter Tryd.func81, Tryd.ntmps81
  go_wp2
  simp [bodyPost, results, Tryd.results81, go_sem]
  exact ⟨rfl, below3 ..⟩
set_option maxRecDepth 100000 in
theorem outside3 (b : Bool) (w : World) : Calls Tryd.prog 81 #[.iface 115 (.bool b)] w fun e w' => e = .returned (VV.agg ⟨3, b, 0, ByteArray.empty, 0⟩) ∧ Below w.heap.size w w' := by
  unfold VV.agg
  go_enter Tryd.func81, Tryd.ntmps81
  go_wp2
  simp [bodyPost, results, Tryd.results81, go_sem]
  exact ⟨rfl, below2 ..⟩
set_option maxRecDepth 100000 in
theorem outside4 (x : Nat) (w : World) : Calls Tryd.prog 81 #[.iface 109 (.float .f64 x)] w fun e w' => e = .returned (VV.agg ⟨4, false, x, ByteArray.empty, 0⟩) ∧ Below w.heap.size w w' := by
  unfold VV.agg
  go_enter Tryd.func81, Tryd.ntmps81
  go_wp2
  simp [bodyPost, results, Tryd.results81, go_sem]
  exact ⟨rfl, below2 ..⟩
set_option maxRecDepth 100000 in
theorem outside6 (i : Int) (w : World) : Calls Tryd.prog 81 #[.iface 118 (.int .i64 i)] w fun e w' => e = .returned (VV.agg ⟨6, false, 0, ByteArray.empty, i⟩) ∧ Below w.heap.size w w' := by
  unfold VV.agg
  go_enter Tryd.func81, Tryd.ntmps81
  go_wp2
  simp [bodyPost, results, Tryd.results81, go_sem]
  exact ⟨rfl, below2 ..⟩
set_option maxRecDepth 100000 in
theorem outside7 (i : Int) (w : World) : Calls Tryd.prog 81 #[.iface 119 (.int .i64 i)] w fun e w' => e = .returned (VV.agg ⟨7, false, 0, ByteArray.empty, i⟩) ∧ Below w.heap.size w w' := by
  unfold VV.agg
  go_enter Tryd.func81, Tryd.ntmps81
  go_wp2
  simp [bodyPost, results, Tryd.results81, go_sem]
  exact ⟨rfl, below2 ..⟩
/-- A block of five cells behind a call that kept it: not frozen. -/
theorem thaw {w w1 : World} {c0 c1 c2 c3 c4 : Value} {t : TypeId} (hb : Below (w.alloc (Obj.cells #[c0, c1, c2, c3, c4] t)).heap.size (w.alloc (Obj.cells #[c0, c1, c2, c3, c4] t)) w1) (j : Nat) :
    w1.frozen? ⟨w.heap.size, j, none⟩ = false := by
  rw [hb.frozen (p := ⟨w.heap.size, j, none⟩) (by simp)]
  simp [go_sem]
set_option maxRecDepth 100000 in
theorem outside5 (s : ByteArray) (h : s.size ≤ 1048576) (w : World) : Calls Tryd.prog 81 #[.iface 117 (.string s)] w fun e w' => e = .returned (VV.agg ⟨5, false, 0, s, 0⟩) ∧ Below w.heap.size w w' := by
  have HC := hide (fun w => clone_any s w h)
  clear h
  unfold VV.agg
  go_enter Tryd.func81, Tryd.ntmps81
  go_wp2_with fail
  refine (kind5 s _).mono ?_
  rintro e w1 ⟨rfl, rfl⟩
  go_wp2_with fail
  refine (unhide HC _).mono ?_
  rintro e w2 ⟨rfl, hb⟩
  obtain ⟨c0, c1, c2, c3, c4, hB, hsz⟩ := five hb
  have hf := thaw hb 3
  have hr0 := (hb.cell (p := ⟨w.heap.size, 0, none⟩) (by simp; omega))
  have hr1 := (hb.cell (p := ⟨w.heap.size, 1, none⟩) (by simp; omega))
  have hr2 := (hb.cell (p := ⟨w.heap.size, 2, none⟩) (by simp; omega))
  have hr3 := (hb.cell (p := ⟨w.heap.size, 3, none⟩) (by simp; omega))
  have hr4 := (hb.cell (p := ⟨w.heap.size, 4, none⟩) (by simp; omega))
  have fz := fun j => hb.frozen (p := ⟨w.heap.size, j, none⟩) (by simp; omega)
  simp [go_sem] at c0 c1 c2 c3 c4 hf hsz hr0 hr1 hr2 hr3 hr4 fz
  have hB' : Below w.heap.size w w2 := ((Below.refl _ _).alloc (Nat.le_refl _) _).trans (hB.mono (by simp))
  clear hb hB
  go_wp2
  simp [bodyPost, results, Tryd.results81, go_sem, hr0, hr1, hr2, hr3, hr4]
  exact (((((hB'.setCell (by simp) _).setCell (Nat.le_refl _) _).setCell (Nat.le_refl _) _).setCell (Nat.le_refl _) _).setCell (Nat.le_refl _) _).setCell (Nat.le_refl _) _
theorem outside_any (v : VV) (h : v.good = true) (w : World) : Calls Tryd.prog 81 #[v.ifc] w fun e w' => e = .returned v.agg ∧ Below w.heap.size w w' := by
  obtain ⟨k, b, x, s, i⟩ := v
  rcases good_cases h with ⟨rfl, rfl, rfl, rfl, rfl⟩ | ⟨rfl, rfl, rfl, rfl, rfl⟩ | ⟨rfl, rfl, rfl, rfl⟩ | ⟨rfl, rfl, rfl, rfl⟩ | ⟨rfl, rfl, rfl, rfl, hs⟩ | ⟨rfl, rfl, rfl, rfl, -, -⟩ | ⟨rfl, rfl, rfl, rfl, -, -⟩
  · exact outside1 w
  · exact outside2 w
  · exact outside3 b w
  · exact outside4 x w
  · refine outside5 s ?_ w
    unfold fitV at hs
    simp at hs
    exact hs.1
  · exact outside6 i w
  · exact outside7 i w
theorem ifcV_good {v : VV} (h : v.good = true) : ifcV v = v.ifc := by
  unfold VV.good goodV at h
  unfold ifcV inI
  rw [if_pos h]
theorem ifcV_bad {v : VV} (h : v.good = false) : ifcV v = .nilIface := by
  unfold VV.good goodV at h
  unfold ifcV inI
  rw [if_neg (by rw [h]; simp)]
theorem inside_good (v : VV) (h : v.good = true) (w : World) (hT : Lib.Utf8Tabs 1 2 w) : Calls Tryd.prog 78 #[v.agg] w fun e w' => e = .returned (.tuple #[v.ifc, .bool true]) ∧ Below w.heap.size w w' := by
  have := inside_any v.k v.b v.x v.s v.i w hT
  rw [show goodV v.k v.b v.x v.s v.i = true from h, ifcV_good (v := ⟨v.k, v.b, v.x, v.s, v.i⟩) h] at this
  exact this
theorem inside_bad (v : VV) (h : v.good = false) (w : World) (hT : Lib.Utf8Tabs 1 2 w) : Calls Tryd.prog 78 #[v.agg] w fun e w' => e = .returned (.tuple #[.nilIface, .bool false]) ∧ Below w.heap.size w w' := by
  have := inside_any v.k v.b v.x v.s v.i w hT
  rw [show goodV v.k v.b v.x v.s v.i = false from h, ifcV_bad (v := ⟨v.k, v.b, v.x, v.s, v.i⟩) h] at this
  exact this
end Go.Proofs.YtcflglloopgieaaDoor
