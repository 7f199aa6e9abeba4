import Derived.Test.YthilnaeomkppaaaGreatFmtQd
import Derived.Deep.RegionHeld3
set_option linter.all false
namespace Go.Proofs.YthilnaeomkppaaaGreatFmt
section
open Go Go.Proofs Go.RowKit
/-- A descriptor of the program, field by field. -/
structure DD where
  v : VV
  g : VV
  s : VV
  w : Int
  e : Int
  c : Int
def DD.agg (d : DD) : Value := .agg #[.int .i64 d.v.k, .bool d.v.b, .float .f64 d.v.x, .string d.v.s, .int .i64 d.v.i, .int .i64 d.g.k, .bool d.g.b, .float .f64 d.g.x, .string d.g.s, .int .i64 d.g.i, .int .i64 d.s.k, .bool d.s.b, .float .f64 d.s.x, .string d.s.s, .int .i64 d.s.i, .int .i64 d.w, .int .i64 d.e, .int .i64 d.c]
def DD.obj (d : DD) : Obj := Obj.cells #[.int .i64 d.v.k, .bool d.v.b, .float .f64 d.v.x, .string d.v.s, .int .i64 d.v.i, .int .i64 d.g.k, .bool d.g.b, .float .f64 d.g.x, .string d.g.s, .int .i64 d.g.i, .int .i64 d.s.k, .bool d.s.b, .float .f64 d.s.x, .string d.s.s, .int .i64 d.s.i, .int .i64 d.w, .int .i64 d.e, .int .i64 d.c] 47
def VV.obj (d : VV) : Obj := Obj.cells #[.int .i64 d.k, .bool d.b, .float .f64 d.x, .string d.s, .int .i64 d.i] 34
def zeroV : VV := ⟨0, false, 0, ⟨#[]⟩, 0⟩
def zeroD : DD := ⟨zeroV, zeroV, zeroV, 0, 0, 0⟩
/-- A descriptor lies in block B. -/
def Lies (W : World) (B : Nat) (d : DD) : Prop := (∀ j, W.frozen? ⟨B, j, none⟩ = false) ∧ W.cell? ⟨B, 0, none⟩ = some (.int .i64 d.v.k) ∧ W.cell? ⟨B, 1, none⟩ = some (.bool d.v.b) ∧ W.cell? ⟨B, 2, none⟩ = some (.float .f64 d.v.x) ∧ W.cell? ⟨B, 3, none⟩ = some (.string d.v.s) ∧ W.cell? ⟨B, 4, none⟩ = some (.int .i64 d.v.i) ∧ W.cell? ⟨B, 5, none⟩ = some (.int .i64 d.g.k) ∧ W.cell? ⟨B, 6, none⟩ = some (.bool d.g.b) ∧ W.cell? ⟨B, 7, none⟩ = some (.float .f64 d.g.x) ∧ W.cell? ⟨B, 8, none⟩ = some (.string d.g.s) ∧ W.cell? ⟨B, 9, none⟩ = some (.int .i64 d.g.i) ∧ W.cell? ⟨B, 10, none⟩ = some (.int .i64 d.s.k) ∧ W.cell? ⟨B, 11, none⟩ = some (.bool d.s.b) ∧ W.cell? ⟨B, 12, none⟩ = some (.float .f64 d.s.x) ∧ W.cell? ⟨B, 13, none⟩ = some (.string d.s.s) ∧ W.cell? ⟨B, 14, none⟩ = some (.int .i64 d.s.i) ∧ W.cell? ⟨B, 15, none⟩ = some (.int .i64 d.w) ∧ W.cell? ⟨B, 16, none⟩ = some (.int .i64 d.e) ∧ W.cell? ⟨B, 17, none⟩ = some (.int .i64 d.c)
/-- A value lies in block B. -/
def VLies (W : World) (B : Nat) (d : VV) : Prop := (∀ j, W.frozen? ⟨B, j, none⟩ = false) ∧ W.cell? ⟨B, 0, none⟩ = some (.int .i64 d.k) ∧ W.cell? ⟨B, 1, none⟩ = some (.bool d.b) ∧ W.cell? ⟨B, 2, none⟩ = some (.float .f64 d.x) ∧ W.cell? ⟨B, 3, none⟩ = some (.string d.s) ∧ W.cell? ⟨B, 4, none⟩ = some (.int .i64 d.i)
theorem Lies.new (w : World) (B : Nat) (hB : B = w.heap.size) (d : DD) : Lies (w.alloc d.obj) B d := by
  subst hB
  unfold Lies DD.obj
  simp [go_sem]
theorem Lies.on {W W1 : World} {B : Nat} {d : DD} (h : Lies W B d) (hB : B < W.heap.size) (hb : Below W.heap.size W W1) : Lies W1 B d := by
  unfold Lies at *
  simp only [hb.cell (p := ⟨B, _, none⟩) hB, hb.frozen (p := ⟨B, _, none⟩) hB]
  exact h
theorem VLies.new (w : World) (B : Nat) (hB : B = w.heap.size) (d : VV) : VLies (w.alloc d.obj) B d := by
  subst hB
  unfold VLies VV.obj
  simp [go_sem]
theorem VLies.on {W W1 : World} {B : Nat} {d : VV} (h : VLies W B d) (hB : B < W.heap.size) (hb : Below W.heap.size W W1) : VLies W1 B d := by
  unfold VLies at *
  simp only [hb.cell (p := ⟨B, _, none⟩) hB, hb.frozen (p := ⟨B, _, none⟩) hB]
  exact h
/-- What a function has boxed. -/
inductive PB where
  | D (d : DD)
  | V (v : VV)
def PB.obj : PB → Obj
  | .D d => d.obj
  | .V v => v.obj
def PB.lies (W : World) (B : Nat) : PB → Prop
  | .D d => Lies W B d
  | .V v => VLies W B v
theorem PB.new (w : World) (B : Nat) (hB : B = w.heap.size) (p : PB) : p.lies (w.alloc p.obj) B := by
  cases p
  · exact Lies.new w B hB _
  · exact VLies.new w B hB _
theorem PB.on {W W1 : World} {B : Nat} {p : PB} (h : p.lies W B) (hB : B < W.heap.size) (hb : Below W.heap.size W W1) : p.lies W1 B := by
  cases p
  · exact Lies.on h hB hb
  · exact VLies.on h hB hb
theorem PB.drew {W : World} {B : Nat} {p : PB} (h : p.lies W B) : p.lies W.drew B := by
  cases p
  · exact h
  · exact h
def HoldsP (W : World) (B : Nat) : List PB → Prop
  | [] => True
  | p :: r => p.lies W B ∧ HoldsP W (B + 1) r
theorem HoldsP.on {W W1 : World} (hb : Below W.heap.size W W1) : ∀ {l : List PB} {B : Nat}, HoldsP W B l → B + l.length ≤ W.heap.size → HoldsP W1 B l
  | [], _, _, _ => trivial
  | p :: r, B, h, hs => ⟨PB.on h.1 (by simp at hs; omega) hb, HoldsP.on hb h.2 (by simp at hs; omega)⟩
theorem HoldsP.drew {W : World} : ∀ {l : List PB} {B : Nat}, HoldsP W B l → HoldsP W.drew B l
  | [], _, _ => trivial
  | _ :: _, _, h => ⟨PB.drew h.1, h.2.drew⟩
theorem HoldsP.snoc {W : World} {p : PB} : ∀ {l : List PB} {B : Nat}, HoldsP W B l → p.lies W (B + l.length) → HoldsP W B (l ++ [p])
  | [], B, _, h => ⟨by simpa using h, trivial⟩
  | q :: r, B, hl, h => ⟨hl.1, HoldsP.snoc hl.2 (by
      have e : B + 1 + r.length = B + (q :: r).length := by
        simp
        omega
      rw [e]
      exact h)⟩
/-- What a function has boxed lies where it lay, and what was there ahead of it is as it was. -/
structure Lie (w W : World) (l : List PB) : Prop where
  below : Below w.heap.size w W
  size : w.heap.size + l.length ≤ W.heap.size
  holds : HoldsP W w.heap.size l
theorem Lie.nil (w : World) : Lie w w [] := ⟨Below.refl _ _, by simp, trivial⟩
theorem Lie.push {w W : World} {l : List PB} (h : Lie w W l) (hs : W.heap.size = w.heap.size + l.length) (p : PB) : Lie w (W.alloc p.obj) (l ++ [p]) := by
  refine ⟨h.below.alloc (by omega) _, by simp; omega, HoldsP.snoc (h.holds.on ((Below.refl _ _).alloc (Nat.le_refl _) _) (by omega)) (PB.new W _ (by omega) p)⟩
theorem Lie.on {w W W1 : World} {l : List PB} (h : Lie w W l) (hb : Below W.heap.size W W1) : Lie w W1 l :=
  ⟨h.below.trans (hb.mono h.below.size), Nat.le_trans h.size hb.size, h.holds.on hb h.size⟩
theorem Lie.drew {w W : World} {l : List PB} (h : Lie w W l) : Lie w W.drew l := ⟨h.below.drew, h.size, h.holds.drew⟩
theorem Lie.new1 (w : World) (p : PB) : Lie w (w.alloc p.obj) [p] := (Lie.nil w).push (by simp) p
theorem Lie.new2 (w : World) (p q : PB) : Lie w ((w.alloc p.obj).alloc q.obj) [p, q] := (Lie.new1 w p).push (by simp) q
theorem Lie.new3 (w : World) (p q r : PB) : Lie w (((w.alloc p.obj).alloc q.obj).alloc r.obj) [p, q, r] := (Lie.new2 w p q).push (by simp) r
theorem Lie.one {w W : World} {p : PB} {l : List PB} (h : Lie w W (p :: l)) : p.lies W w.heap.size := h.holds.1
theorem Lie.two {w W : World} {p q : PB} {l : List PB} (h : Lie w W (p :: q :: l)) : q.lies W (w.heap.size + 1) := h.holds.2.1
theorem Lie.three {w W : World} {p q r : PB} {l : List PB} (h : Lie w W (p :: q :: r :: l)) : r.lies W (w.heap.size + 2) := h.holds.2.2.1
end
section
open Go.RowKit FM
attribute [local go_sem] bits_run
theorem m56 (w : World) : (method 631 129 (.agg #[]) "cameo/value.kind").run Tryz.prog w = .ok (439, .agg #[]) w := by kernel_rfl
theorem m57 (w : World) : (method 631 130 (.agg #[]) "cameo/value.kind").run Tryz.prog w = .ok (440, .agg #[]) w := by kernel_rfl
theorem m58 (b : Bool) (w : World) : (method 631 131 (.bool b) "cameo/value.kind").run Tryz.prog w = .ok (441, .bool b) w := by kernel_rfl
theorem m59 (x : Nat) (w : World) : (method 631 104 (.float .f64 x) "cameo/value.kind").run Tryz.prog w = .ok (438, .float .f64 x) w := by kernel_rfl
theorem m79 (s : ByteArray) (w : World) : (method 631 133 (.string s) "cameo/value.kind").run Tryz.prog w = .ok (442, .string s) w := by kernel_rfl
theorem m81 (i : Int) (w : World) : (method 631 134 (.int .i64 i) "cameo/value.kind").run Tryz.prog w = .ok (443, .int .i64 i) w := by kernel_rfl
theorem m82 (i : Int) (w : World) : (method 631 135 (.int .i64 i) "cameo/value.kind").run Tryz.prog w = .ok (444, .int .i64 i) w := by kernel_rfl
theorem run_store_floatD (P : Program) (w : World) (a : Addr) (m : Mode) (k : FloatKind) (x : Nat) : (store a (.float k x) m).run P w = stored P w a (.float k x) m := run_store P w a _ m rfl
theorem ta56 (u : TypeId) (v : Value) (w : World) : (Instr.typeAssert (.iface u v) 98 129 true).run Tryz.prog w = .ok (if u = 129 then .tuple #[v, .bool true] else .tuple #[.agg #[], .bool false]) w := by
  by_cases h : u = 129 <;> simp [Instr.typeAssert, run_underlying Tryz.underlying129, h, Tryz.zeroValue129]
theorem ta57 (u : TypeId) (v : Value) (w : World) : (Instr.typeAssert (.iface u v) 98 130 true).run Tryz.prog w = .ok (if u = 130 then .tuple #[v, .bool true] else .tuple #[.agg #[], .bool false]) w := by
  by_cases h : u = 130 <;> simp [Instr.typeAssert, run_underlying Tryz.underlying130, h, Tryz.zeroValue130]
theorem ta58 (u : TypeId) (v : Value) (w : World) : (Instr.typeAssert (.iface u v) 98 131 true).run Tryz.prog w = .ok (if u = 131 then .tuple #[v, .bool true] else .tuple #[.bool false, .bool false]) w := by
  by_cases h : u = 131 <;> simp [Instr.typeAssert, run_underlying Tryz.underlying131, h, Tryz.zeroValue131]
theorem ta59 (u : TypeId) (v : Value) (w : World) : (Instr.typeAssert (.iface u v) 98 104 true).run Tryz.prog w = .ok (if u = 104 then .tuple #[v, .bool true] else .tuple #[.float .f64 0, .bool false]) w := by
  by_cases h : u = 104 <;> simp [Instr.typeAssert, run_underlying Tryz.underlying104, h, Tryz.zeroValue104]
theorem ta79 (u : TypeId) (v : Value) (w : World) : (Instr.typeAssert (.iface u v) 98 133 true).run Tryz.prog w = .ok (if u = 133 then .tuple #[v, .bool true] else .tuple #[.string ⟨#[]⟩, .bool false]) w := by
  by_cases h : u = 133 <;> simp [Instr.typeAssert, run_underlying Tryz.underlying133, h, Tryz.zeroValue133]
theorem ta81 (u : TypeId) (v : Value) (w : World) : (Instr.typeAssert (.iface u v) 98 134 true).run Tryz.prog w = .ok (if u = 134 then .tuple #[v, .bool true] else .tuple #[.int .i64 0, .bool false]) w := by
  by_cases h : u = 134 <;> simp [Instr.typeAssert, run_underlying Tryz.underlying134, h, Tryz.zeroValue134]
theorem ta82 (u : TypeId) (v : Value) (w : World) : (Instr.typeAssert (.iface u v) 98 135 true).run Tryz.prog w = .ok (if u = 135 then .tuple #[v, .bool true] else .tuple #[.int .i64 0, .bool false]) w := by
  by_cases h : u = 135 <;> simp [Instr.typeAssert, run_underlying Tryz.underlying135, h, Tryz.zeroValue135]
attribute [local go_sem] m56 m57 m58 m59 m79 m81 m82 run_store_floatD ta56 ta57 ta58 ta59 ta79 ta81 ta82
theorem below2 (w : World) (o1 o2 : Obj) : Below w.heap.size w ((w.alloc o1).alloc o2) := ((Below.refl _ _).alloc (Nat.le_refl _) _).alloc (by simp) _
theorem below3 (w : World) (o1 o2 o3 : Obj) : Below w.heap.size w (((w.alloc o1).alloc o2).alloc o3) := (below2 w o1 o2).alloc (by simp; omega) _
theorem kind5 (s : ByteArray) (w : World) : Calls Tryz.prog 442 #[.string s] w fun e w' => e = .returned (.int .i64 5) ∧ w' = w := by
  go_enter Tryz.func442, Tryz.ntmps442
  go_wp2
  go_ret
  exact ⟨rfl, rfl⟩
set_option maxRecDepth 100000 in
theorem outside1 (w : World) : Calls Tryz.prog 54 #[.iface 129 (.agg #[])] w fun e w' => e = .returned (VV.agg ⟨1, false, 0, ByteArray.empty, 0⟩) ∧ Below w.heap.size w w' := by
  unfold VV.agg
  go_enter Tryz.func54, Tryz.ntmps54
  go_wp2
  simp [bodyPost, results, Tryz.results54, go_sem]
  exact ⟨rfl, below3 ..⟩
set_option maxRecDepth 100000 in
theorem outside2 (w : World) : Calls Tryz.prog 54 #[.iface 130 (.agg #[])] w fun e w' => e = .returned (VV.agg ⟨2, false, 0, ByteArray.empty, 0⟩) ∧ Below w.heap.size w w' := by
  unfold VV.agg
  go_enter Tryz.func54, Tryz.ntmps54
  go_wp2
  simp [bodyPost, results, Tryz.results54, go_sem]
  exact ⟨rfl, below3 ..⟩
set_option maxRecDepth 100000 in
theorem outside3 (b : Bool) (w : World) : Calls Tryz.prog 54 #[.iface 131 (.bool b)] w fun e w' => e = .returned (VV.agg ⟨3, b, 0, ByteArray.empty, 0⟩) ∧ Below w.heap.size w w' := by
  unfold VV.agg
  go_enter Tryz.func54, Tryz.ntmps54
  go_wp2
  simp [bodyPost, results, Tryz.results54, go_sem]
  exact ⟨rfl, below2 ..⟩
set_option maxRecDepth 100000 in
theorem outside4 (x : Nat) (w : World) : Calls Tryz.prog 54 #[.iface 104 (.float .f64 x)] w fun e w' => e = .returned (VV.agg ⟨4, false, x, ByteArray.empty, 0⟩) ∧ Below w.heap.size w w' := by
  unfold VV.agg
  go_enter Tryz.func54, Tryz.ntmps54
  go_wp2
  simp [bodyPost, results, Tryz.results54, go_sem]
  exact ⟨rfl, below2 ..⟩
set_option maxRecDepth 100000 in
theorem outside6 (i : Int) (w : World) : Calls Tryz.prog 54 #[.iface 134 (.int .i64 i)] w fun e w' => e = .returned (VV.agg ⟨6, false, 0, ByteArray.empty, i⟩) ∧ Below w.heap.size w w' := by
  unfold VV.agg
  go_enter Tryz.func54, Tryz.ntmps54
  go_wp2
  simp [bodyPost, results, Tryz.results54, go_sem]
  exact ⟨rfl, below2 ..⟩
set_option maxRecDepth 100000 in
theorem outside7 (i : Int) (w : World) : Calls Tryz.prog 54 #[.iface 135 (.int .i64 i)] w fun e w' => e = .returned (VV.agg ⟨7, false, 0, ByteArray.empty, i⟩) ∧ Below w.heap.size w w' := by
  unfold VV.agg
  go_enter Tryz.func54, Tryz.ntmps54
  go_wp2
  simp [bodyPost, results, Tryz.results54, go_sem]
  exact ⟨rfl, below2 ..⟩
/-- A block of five cells behind a call that kept it: not frozen. -/
theorem thaw {w w1 : World} {c0 c1 c2 c3 c4 : Value} {t : TypeId} (hb : Below (w.alloc (Obj.cells #[c0, c1, c2, c3, c4] t)).heap.size (w.alloc (Obj.cells #[c0, c1, c2, c3, c4] t)) w1) (j : Nat) :
    w1.frozen? ⟨w.heap.size, j, none⟩ = false := by
  rw [hb.frozen (p := ⟨w.heap.size, j, none⟩) (by simp)]
  simp [go_sem]
set_option maxRecDepth 100000 in
theorem outside5 (s : ByteArray) (h : s.size ≤ 1048576) (w : World) : Calls Tryz.prog 54 #[.iface 133 (.string s)] w fun e w' => e = .returned (VV.agg ⟨5, false, 0, s, 0⟩) ∧ Below w.heap.size w w' := by
  have HC := hide (fun w => clone_any s w h)
  clear h
  unfold VV.agg
  go_enter Tryz.func54, Tryz.ntmps54
  go_wp2_with fail
  refine (kind5 s _).mono ?_
  rintro e w1 ⟨rfl, rfl⟩
  go_wp2_with fail
  refine (unhide HC _).mono ?_
  rintro e w2 ⟨rfl, hb⟩
  obtain ⟨c0, c1, c2, c3, c4, hB, hsz⟩ := five hb
  have hf := thaw hb 3
  have hr0 := (hb.cell (p := ⟨w.heap.size, 0, none⟩) (by simp; omega))
  have hr1 := (hb.cell (p := ⟨w.heap.size, 1, none⟩) (by simp; omega))
  have hr2 := (hb.cell (p := ⟨w.heap.size, 2, none⟩) (by simp; omega))
  have hr3 := (hb.cell (p := ⟨w.heap.size, 3, none⟩) (by simp; omega))
  have hr4 := (hb.cell (p := ⟨w.heap.size, 4, none⟩) (by simp; omega))
  have fz := fun j => hb.frozen (p := ⟨w.heap.size, j, none⟩) (by simp; omega)
  simp [go_sem] at c0 c1 c2 c3 c4 hf hsz hr0 hr1 hr2 hr3 hr4 fz
  have hB' : Below w.heap.size w w2 := ((Below.refl _ _).alloc (Nat.le_refl _) _).trans (hB.mono (by simp))
  clear hb hB
  go_wp2
  simp [bodyPost, results, Tryz.results54, go_sem, hr0, hr1, hr2, hr3, hr4]
  exact (((((hB'.setCell (by simp) _).setCell (Nat.le_refl _) _).setCell (Nat.le_refl _) _).setCell (Nat.le_refl _) _).setCell (Nat.le_refl _) _).setCell (Nat.le_refl _) _
theorem outside_any (v : VV) (h : v.good = true) (w : World) : Calls Tryz.prog 54 #[v.ifc] w fun e w' => e = .returned v.agg ∧ Below w.heap.size w w' := by
  obtain ⟨k, b, x, s, i⟩ := v
  rcases good_cases h with ⟨rfl, rfl, rfl, rfl, rfl⟩ | ⟨rfl, rfl, rfl, rfl, rfl⟩ | ⟨rfl, rfl, rfl, rfl⟩ | ⟨rfl, rfl, rfl, rfl⟩ | ⟨rfl, rfl, rfl, rfl, hs⟩ | ⟨rfl, rfl, rfl, rfl, -, -⟩ | ⟨rfl, rfl, rfl, rfl, -, -⟩
  · exact outside1 w
  · exact outside2 w
  · exact outside3 b w
  · exact outside4 x w
  · refine outside5 s ?_ w
    unfold fitV at hs
    simp at hs
    exact hs.1
  · exact outside6 i w
  · exact outside7 i w
theorem ifcV_good {v : VV} (h : v.good = true) : ifcV v = v.ifc := by
  unfold VV.good goodV at h
  unfold ifcV inI
  rw [if_pos h]
theorem ifcV_bad {v : VV} (h : v.good = false) : ifcV v = .nilIface := by
  unfold VV.good goodV at h
  unfold ifcV inI
  rw [if_neg (by rw [h]; simp)]
theorem inside_good (v : VV) (h : v.good = true) (w : World) (hT : Lib.Utf8Tabs 4 5 w) : Calls Tryz.prog 49 #[v.agg] w fun e w' => e = .returned (.tuple #[v.ifc, .bool true]) ∧ Below w.heap.size w w' := by
  have := inside_any v.k v.b v.x v.s v.i w hT
  rw [show goodV v.k v.b v.x v.s v.i = true from h, ifcV_good (v := ⟨v.k, v.b, v.x, v.s, v.i⟩) h] at this
  exact this
theorem inside_bad (v : VV) (h : v.good = false) (w : World) (hT : Lib.Utf8Tabs 4 5 w) : Calls Tryz.prog 49 #[v.agg] w fun e w' => e = .returned (.tuple #[.nilIface, .bool false]) ∧ Below w.heap.size w w' := by
  have := inside_any v.k v.b v.x v.s v.i w hT
  rw [show goodV v.k v.b v.x v.s v.i = false from h, ifcV_bad (v := ⟨v.k, v.b, v.x, v.s, v.i⟩) h] at this
  exact this
