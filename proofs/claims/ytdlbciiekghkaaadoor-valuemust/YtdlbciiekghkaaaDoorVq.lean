import Derived.Test.YtdlbciiekghkaaaDoorVp
import Derived.Deep.RegionHeld
namespace Go.Proofs.YtdlbciiekghkaaaDoor
open Go.RowKit FM
attribute [local go_sem] run_store_float
/-- One cell of a block that may be written. -/
structure One (w : World) (B : Nat) (c : Value) : Prop where
  h0 : w.cell? ⟨B, 0, none⟩ = some c
  fz : w.frozen? ⟨B, 0, none⟩ = false
  lt : B < w.heap.size
theorem one_new (w : World) (B : Nat) (c : Value) (t : TypeId) (hB : B = w.heap.size) : One (w.alloc (Obj.cells #[c] t)) B c := by
  subst hB
  refine ⟨?_, ?_, ?_⟩ <;> simp [go_sem]
theorem one_below {w w' : World} {B : Nat} {c : Value} (h : One w B c) (hb : Below w.heap.size w w') : One w' B c :=
  ⟨(hb.cell h.lt).trans h.h0, (hb.frozen h.lt).trans h.fz, Nat.lt_of_lt_of_le h.lt hb.size⟩
theorem one_alloc {w : World} {B : Nat} {c : Value} (h : One w B c) (o : Obj) : One (w.alloc o) B c := one_below h ((Below.refl _ _).alloc (Nat.le_refl _) _)
theorem ta41 (a : Addr) (w : World) : (Instr.typeAssert (.iface 41 (.pointer (some a))) 20 41 true).run Tryd.prog w = .ok (.tuple #[.pointer (some a), .bool true]) w := by
  simp [Instr.typeAssert, run_underlying Tryd.underlying41]
theorem neq_nil (w : World) : (binOp .neq 20 .nilIface .nilIface).run Tryd.prog w = .ok (.bool false) w := by kernel_rfl
theorem neq_wrong (a : Addr) (w : World) : (binOp .neq 20 (.iface 41 (.pointer (some a))) .nilIface).run Tryd.prog w = .ok (.bool true) w := by kernel_rfl
attribute [local go_sem] ta41 neq_nil neq_wrong
theorem catch_idle (p q : Addr) (w : World) :
    CallsD Tryd.prog 42 #[.pointer (some p), .pointer (some q)] .returning w fun e u' w' => e = .returned (.tuple #[]) ∧ u' = .returning ∧ w' = w := by
  refine callsD_of_wpS Tryd.func42 rfl fun c₀ cs hu => ?_
  apply wpS_seq
  apply wpS_region
  simp [wpOpsS, go_sem, recoverD, hu, Tryd.ntmps42, Exit.thenS]
  refine wpS_of_wp ?_
  go_wp2
  cases c₀
  simp_all [bodyPostS, results, Tryd.results42]
theorem catch_panicking (p q : Addr) (a : Addr) (c d : Value) (older : List PanicEntry) (w : World) (hp : w.cell? p = some c) (fp : w.frozen? p = false) (hq : w.cell? q = some d) (fq : w.frozen? q = false) (hne : p ≠ q) :
    CallsD Tryd.prog 42 #[.pointer (some p), .pointer (some q)] (.panicking ({ v := .iface 41 (.pointer (some a)), recovered := false } :: older)) w fun e u' w' =>
      e = .returned (.tuple #[]) ∧ u' = .panicking ({ v := .iface 41 (.pointer (some a)), recovered := true } :: older) ∧ w' = (w.setCell p (.pointer (some a))).setCell q (.bool true) := by
  refine callsD_of_wpS Tryd.func42 rfl fun c₀ cs hu => ?_
  apply wpS_seq
  apply wpS_region
  simp [wpOpsS, go_sem, recoverD, hu, Tryd.ntmps42, Exit.thenS]
  refine wpS_of_wp ?_
  go_wp2
  simp [bodyPostS, results, Tryd.results42]
set_option maxRecDepth 100000 in
theorem try_ok (v : VV) (hg : v.good = true) (w : World) (hT : Lib.Utf8Tabs 1 2 w) :
    Calls Tryd.prog 27 #[.int .i64 v.k, v.agg] w fun e w' => e = .returned (.tuple #[v.agg, .pointer none, .bool true]) ∧ Below w.heap.size w w' := by
  have hmf : ∀ (fn : Fn) (first cap : Array Value) (w : World), (Instr.makeFunc fn first cap).run Tryd.prog w = .ok (.func fn first cap) w := fun _ _ _ _ => rfl
  have HM := hide (must_ok v hg)
  have HT := hide hT
  clear hg hT
  obtain ⟨k', b, x, s, i⟩ := v
  unfold VV.agg at *
  dsimp only at *
  go_enter_defers Tryd.func27, Tryd.ntmps27
  go_wp2_with fail
  have hB0 := ((below2 w (.cells #[.int .i64 k', .bool b, .float .f64 x, .string s, .int .i64 i] 24) (.cells #[.int .i64 0, .bool false, .float .f64 0, .string ⟨#[]⟩, .int .i64 0] 24)).alloc (by simp; omega) (.cells #[.pointer none] 41)).alloc (by simp; omega) (.cells #[.bool false] 4)
  refine (unhide HM _ (tabs_below (unhide HT) hB0)).mono ?_
  rintro e w1 ⟨rfl, hb⟩
  have hB := hB0.trans (hb.mono hB0.size)
  obtain ⟨r0, r1, r2, r3, r4, rf, rl⟩ := five_below (five_alloc (five_alloc (five_new (w.alloc (.cells #[.int .i64 k', .bool b, .float .f64 x, .string s, .int .i64 i] 24)) (w.heap.size + 1) _ _ _ _ _ _ (by simp)) _) _) hb
  obtain ⟨o0, of, ol⟩ := one_below (one_alloc (one_new ((w.alloc (.cells #[.int .i64 k', .bool b, .float .f64 x, .string s, .int .i64 i] 24)).alloc (.cells #[.int .i64 0, .bool false, .float .f64 0, .string ⟨#[]⟩, .int .i64 0] 24)) (w.heap.size + 1 + 1) _ _ (by simp)) _) hb
  obtain ⟨t0, tf, tl⟩ := one_below (one_new _ (w.heap.size + 1 + 1 + 1) _ _ (by simp)) hb
  clear hb HM HT hB0
  go_wp2
  refine leaves_cons (f := 42) (args := #[.pointer (some ⟨w.heap.size + 1 + 1, 0, none⟩), .pointer (some ⟨w.heap.size + 1 + 1 + 1, 0, none⟩)]) (by simp) (by simp [go_sem]) ?_
  refine (catch_idle _ _ _).mono ?_
  rintro e u' w2 ⟨rfl, rfl, rfl⟩
  simp [Leaves, settle, results, Tryd.results27, go_sem, r0, r1, r2, r3, r4, o0, t0]
  exact (set5 hB (by omega)).setCell (by show w.heap.size ≤ w.heap.size + 1 + 1; omega) _ |>.setCell (by show w.heap.size ≤ w.heap.size + 1 + 1 + 1; omega) _
/-- What the law's own must answers where Must panics. -/
def Told (w' : World) (e : Ending) (k got : Int) (B : Nat) : Prop :=
  e = .returned (.tuple #[VV.agg ⟨0, false, 0, ByteArray.empty, 0⟩, .pointer (some ⟨B, 0, none⟩), .bool true]) ∧ w'.cell? ⟨B, 0, none⟩ = some (.int .i64 k) ∧ w'.cell? ⟨B, 1, none⟩ = some (.int .i64 got)
set_option maxRecDepth 100000 in
theorem try_panic (k : Int) (v : VV) (got : Int) (HM : Hid (∀ (w : World), Lib.Utf8Tabs 1 2 w → Calls Tryd.prog 43 #[.int .i64 k, v.agg] w fun e w' => ∃ B, e = .panicked [{ v := .iface 41 (.pointer (some ⟨B, 0, none⟩)), recovered := false }] ∧ w.heap.size ≤ B ∧ w'.cell? ⟨B, 0, none⟩ = some (.int .i64 k) ∧ w'.cell? ⟨B, 1, none⟩ = some (.int .i64 got) ∧ Below w.heap.size w w')) (w : World) (hT : Lib.Utf8Tabs 1 2 w) :
    Calls Tryd.prog 27 #[.int .i64 k, v.agg] w fun e w' => ∃ B, Told w' e k got B ∧ B < w'.heap.size ∧ Below w.heap.size w w' := by
  have hmf : ∀ (fn : Fn) (first cap : Array Value) (w : World), (Instr.makeFunc fn first cap).run Tryd.prog w = .ok (.func fn first cap) w := fun _ _ _ _ => rfl
  have HT := hide hT
  clear hT
  obtain ⟨k', b, x, s, i⟩ := v
  unfold VV.agg at *
  dsimp only at *
  go_enter_defers Tryd.func27, Tryd.ntmps27
  go_wp2_with fail
  have hB0 := ((below2 w (.cells #[.int .i64 k', .bool b, .float .f64 x, .string s, .int .i64 i] 24) (.cells #[.int .i64 0, .bool false, .float .f64 0, .string ⟨#[]⟩, .int .i64 0] 24)).alloc (by simp; omega) (.cells #[.pointer none] 41)).alloc (by simp; omega) (.cells #[.bool false] 4)
  refine (unhide HM _ (tabs_below (unhide HT) hB0)).mono ?_
  rintro e w1 ⟨B, rfl, hBB, cw, cg, hb⟩
  have hB := hB0.trans (hb.mono hB0.size)
  obtain ⟨r0, r1, r2, r3, r4, rf, rl⟩ := five_below (five_alloc (five_alloc (five_new (w.alloc (.cells #[.int .i64 k', .bool b, .float .f64 x, .string s, .int .i64 i] 24)) (w.heap.size + 1) _ _ _ _ _ _ (by simp)) _) _) hb
  obtain ⟨o0, of, ol⟩ := one_below (one_alloc (one_new ((w.alloc (.cells #[.int .i64 k', .bool b, .float .f64 x, .string s, .int .i64 i] 24)).alloc (.cells #[.int .i64 0, .bool false, .float .f64 0, .string ⟨#[]⟩, .int .i64 0] 24)) (w.heap.size + 1 + 1) _ _ (by simp)) _) hb
  obtain ⟨t0, tf, tl⟩ := one_below (one_new _ (w.heap.size + 1 + 1 + 1) _ _ (by simp)) hb
  have hBl : B < w1.heap.size := by
    rcases Nat.lt_or_ge B w1.heap.size with h | h
    · exact h
    · simp [World.cell?, Array.getElem?_eq_none h] at cw
  clear hb HM HT hB0
  simp at hBB
  have hne : (⟨w.heap.size + 1 + 1, 0, none⟩ : Addr) ≠ ⟨w.heap.size + 1 + 1 + 1, 0, none⟩ := by simp
  refine leaves_cons (f := 42) (args := #[.pointer (some ⟨w.heap.size + 1 + 1, 0, none⟩), .pointer (some ⟨w.heap.size + 1 + 1 + 1, 0, none⟩)]) (by simp) (by simp [go_sem]) ?_
  refine (catch_panicking ⟨w.heap.size + 1 + 1, 0, none⟩ ⟨w.heap.size + 1 + 1 + 1, 0, none⟩ ⟨B, 0, none⟩ _ _ [] w1 o0 of t0 tf hne).mono ?_
  rintro e u' w2 ⟨rfl, rfl, rfl⟩
  simp [Leaves, settle, results, Tryd.results27, go_sem, r0, r1, r2, r3, r4, o0, t0]
  have n1 : (⟨w.heap.size + 1 + 1, 0, none⟩ : Addr).block ≠ B := by show w.heap.size + 1 + 1 ≠ B; omega
  have n2 : (⟨w.heap.size + 1 + 1 + 1, 0, none⟩ : Addr).block ≠ B := by show w.heap.size + 1 + 1 + 1 ≠ B; omega
  refine ⟨B, ⟨rfl, ?_, ?_⟩, hBl, (hB.setCell (by show w.heap.size ≤ w.heap.size + 1 + 1; omega) _).setCell (by show w.heap.size ≤ w.heap.size + 1 + 1 + 1; omega) _⟩
  · rw [World.cell?_setCell_far _ _ _ _ n2, World.cell?_setCell_far _ _ _ _ n1]
    exact cw
  · rw [World.cell?_setCell_far _ _ _ _ n2, World.cell?_setCell_far _ _ _ _ n1]
    exact cg
end Go.Proofs.YtdlbciiekghkaaaDoor
