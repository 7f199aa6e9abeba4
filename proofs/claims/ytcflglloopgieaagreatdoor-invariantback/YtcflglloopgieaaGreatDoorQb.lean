import Derived.Test.YtcflglloopgieaaGreatDoorQa
import Derived.Test.YtcflglloopgieaaGreatDoorChecked
import Derived.WalkKit
import Derived.WalkSpells
import Derived.WalkLawsBesides
import Derived.Laws.BitsAllLaws
import Derived.Shelf.Small.Wraps
import Derived.Shelf.LaysM
import Derived.Shelf.Strconv.Clone
import Derived.Test.YtcflglloopgieaaGreatDoorProg
import Derived.Below
import Derived.Deep.RegionHeld3
import Derived.LoopTactic
import Derived.RangeFuncRecord
import Derived.Shelf.Abstract
import Derived.OwnWalkIn
import Derived.TacticsInMore
import Derived.LoopNIn
import Derived.LoopIn
import Derived.Maps.AppendAt
import Derived.Laws.BytesArg
import Derived.Laws.IdiomStrings
import Derived.Deep.AppendLies
import Derived.Deep.QuietTactic
import Derived.BigQuiet

/-! Va -/
namespace Go.Proofs.YtcflglloopgieaaGreatDoor
open Go.RowKit FM

theorem bits_run (b : Nat) (w : World) : (callFunc 76 #[.float .f64 b]).run Tryz.prog w = .ok (.value (.int .u64 (b : Int))) w := by
  rw [run_callFunc_extern Tryz.func76 (by kernel_rfl) (by kernel_rfl) (by kernel_rfl) (e := Extern.MathFloatBits.float64bits) (by kernel_rfl)]; rfl
attribute [local go_sem] bits_run
theorem rb {a b : Bool} (h : a = b) : Ending.returned (.bool a) = Ending.returned (.bool b) := by rw [h]
theorem isnan_any (b : Nat) (w : World) : Calls Tryz.prog 102 #[.float .f64 b] w fun e w' => e = .returned (.bool (isN b)) ∧ w' = w := by
  go_enter Tryz.func102, Tryz.ntmps102
  go_wp2
  go_ret
  exact ⟨by rw [← nanF]; rfl, rfl⟩
def sameV (x y : Nat) : Bool := (isN x && isN y) || decide (x = y)
def same0V (x y : Nat) : Bool := sameV x y || (decide (sz x = 0) && decide (sz y = 0))
def equalV (x y : Nat) : Bool := !isN x && !isN y && same0V x y
theorem fo (x y : Nat) : FloatKind.f64.format.order x y = Ieee.double.order x y := rfl
theorem sz0_nan {b : Nat} (h : sz b = 0) : isN b = false := by
  unfold isN; rw [h]; decide

theorem same_any (x y : Nat) (w : World) : Calls Tryz.prog 93 #[.float .f64 x, .float .f64 y] w fun e w' => e = .returned (.bool (sameV x y)) ∧ w' = w := by
  cases hx : isN x
  · cases hy : isN y
    · go_enter Tryz.func93, Tryz.ntmps93
      go_wp2_with fail
      refine (isnan_any x _).mono ?_
      rintro e w' ⟨rfl, rfl⟩
      rw [hx]
      go_wp2_with fail
      refine (isnan_any y _).mono ?_
      rintro e w' ⟨rfl, rfl⟩
      rw [hy]
      go_wp2
      go_ret
      refine ⟨rb ?_, rfl⟩
      unfold sameV
      rw [hx, hy, Bool.eq_iff_iff]
      simp
      omega
    · go_enter Tryz.func93, Tryz.ntmps93
      go_wp2_with fail
      refine (isnan_any x _).mono ?_
      rintro e w' ⟨rfl, rfl⟩
      rw [hx]
      go_wp2_with fail
      refine (isnan_any y _).mono ?_
      rintro e w' ⟨rfl, rfl⟩
      rw [hy]
      go_wp2_with fail
      refine (isnan_any x _).mono ?_
      rintro e w' ⟨rfl, rfl⟩
      rw [hx]
      go_wp2
      go_ret
      refine ⟨rb ?_, rfl⟩
      unfold sameV
      have hne : x ≠ y := fun e => by rw [e, hy] at hx; cases hx
      simp [hx, hne]
  · cases hy : isN y
    · go_enter Tryz.func93, Tryz.ntmps93
      go_wp2_with fail
      refine (isnan_any x _).mono ?_
      rintro e w' ⟨rfl, rfl⟩
      rw [hx]
      go_wp2_with fail
      refine (isnan_any x _).mono ?_
      rintro e w' ⟨rfl, rfl⟩
      rw [hx]
      go_wp2_with fail
      refine (isnan_any y _).mono ?_
      rintro e w' ⟨rfl, rfl⟩
      rw [hy]
      go_wp2
      go_ret
      refine ⟨rb ?_, rfl⟩
      unfold sameV
      have hne : x ≠ y := fun e => by rw [e, hy] at hx; cases hx
      simp [hy, hne]
    · go_enter Tryz.func93, Tryz.ntmps93
      go_wp2_with fail
      refine (isnan_any x _).mono ?_
      rintro e w' ⟨rfl, rfl⟩
      rw [hx]
      go_wp2_with fail
      refine (isnan_any x _).mono ?_
      rintro e w' ⟨rfl, rfl⟩
      rw [hx]
      go_wp2_with fail
      refine (isnan_any y _).mono ?_
      rintro e w' ⟨rfl, rfl⟩
      rw [hy]
      go_wp2
      go_ret
      refine ⟨rb ?_, rfl⟩
      simp [sameV, hx, hy]
theorem eq_order (x y : Nat) (hx64 : x < 2 ^ 64) (hy64 : y < 2 ^ 64) : (FloatKind.f64.format.order x y == some .eq) = equalV x y := by
  rw [fo, eqF x y hx64 hy64]
  unfold equalV same0V sameV
  cases isN x <;> cases isN y <;> simp
end Go.Proofs.YtcflglloopgieaaGreatDoor

/-
  THE SHELF's CONTRACTS for cmp.Compare at int and for internal/stringslite.Clone, laid at this program in plain words (by lay-plain.mjs).
-/
namespace Go.Proofs
open Go.Shelf
def Tryz.laysM316_ren : Go.Shelf.Ren := ⟨fun | 316 => 82 | n => n, fun | 9 => 9 | 3 => 3 | 4 => 4 | 37 => 122 | 0 => 0 | 127 => 123 | 5 => 5 | n => n, fun | n => n⟩
theorem Tryz.laysM316 : Go.Proofs.LaysM.n316 Tryz.prog Tryz.laysM316_ren := {
  mixed := by kernel_rfl
  f316 := Tryz.func82.trans (congrArg some (by kernel_rfl))
  t0 := Tryz.underlying0
  a0 := Tryz.isAgg0
  z0 := Tryz.sizeOf0
  v0 := Tryz.zeroValue0
  t3 := Tryz.underlying3
  a3 := Tryz.isAgg3
  z3 := Tryz.sizeOf3
  v3 := Tryz.zeroValue3
  t4 := Tryz.underlying4
  a4 := Tryz.isAgg4
  z4 := Tryz.sizeOf4
  v4 := Tryz.zeroValue4
  t9 := Tryz.underlying9
  a9 := Tryz.isAgg9
  z9 := Tryz.sizeOf9
  v9 := Tryz.zeroValue9
  t37 := Tryz.underlying122
  a37 := Tryz.isAgg122
  z37 := Tryz.sizeOf122
  v37 := Tryz.zeroValue122
  t127 := Tryz.underlying123
  a127 := Tryz.isAgg123
  z127 := Tryz.sizeOf123
  v127 := Tryz.zeroValue123
  t5 := Tryz.underlying5
  a5 := Tryz.isAgg5
  z5 := Tryz.sizeOf5
  v5 := Tryz.zeroValue5
  i0 := by kernel_rfl
  i3 := by kernel_rfl
  i4 := by kernel_rfl
  i5 := by kernel_rfl
  i9 := by kernel_rfl
  i37 := by kernel_rfl
  i127 := by kernel_rfl }
open Go.RowKit in
/-- internal/stringslite.Clone (what strings.Clone calls): "Clone returns a fresh copy of s.": THE SAME BYTES. Of what was there nothing has turned (a new row is laid, and frozen, where s is not empty). (LAID: no walk: one application.) -/
theorem Tryz.stringslite_Clone (s : ByteArray) (w : World) (hlim : s.size ≤ 281474976710656) :
    Calls Tryz.prog 82 #[.string s] w fun e w' => e = .returned (.string s) ∧ Below w.heap.size w w' := Any.stringslite_Clone Tryz.laysM316 s w hlim
end Go.Proofs

/-! Vb -/
namespace Go.Proofs.YtcflglloopgieaaGreatDoor
open Go.RowKit FM
attribute [local go_sem] bits_run

/-- A value of the program, field by field. -/
structure VV where
  k : Int
  b : Bool
  x : Nat
  s : ByteArray
  i : Int
def VV.agg (v : VV) : Value := .agg #[.int .i64 v.k, .bool v.b, .float .f64 v.x, .string v.s, .int .i64 v.i]
def VV.ifc (v : VV) : Value :=
  if v.k = 1 then .iface 141 (.agg #[]) else if v.k = 2 then .iface 142 (.agg #[]) else if v.k = 3 then .iface 132 (.bool v.b) else if v.k = 4 then .iface 121 (.float .f64 v.x)
  else if v.k = 5 then .iface 133 (.string v.s) else if v.k = 6 then .iface 134 (.int .i64 v.i) else .iface 135 (.int .i64 v.i)
def strV (k : Int) (b : Bool) (x : Nat) (s : ByteArray) (i : Int) : Bool :=
  b && k != 3 || x != 0 && k != 4 || !s.toList.isEmpty && k != 5 || i != 0 && k != 6 && k != 7

set_option maxHeartbeats 1000000 in
theorem strays_any (k : Int) (b : Bool) (x : Nat) (s : ByteArray) (i : Int) (w : World) :
    Calls Tryz.prog 107 #[.agg #[.int .i64 k, .bool b, .float .f64 x, .string s, .int .i64 i]] w fun e w' => e = .returned (.bool (strV k b x s i)) ∧ Below w.heap.size w w' := by
  unfold strV
  cases b
  all_goals
    go_enter Tryz.func107, Tryz.ntmps107
    go_wp2
    all_goals
      go_ret
      refine ⟨?_, (Below.refl _ _).alloc (Nat.le_refl _) _⟩
      simp [*]
def fitV (s : ByteArray) : Bool := decide (s.size ≤ 1048576) && M.valid false (nums s)
theorem fits_any (s : ByteArray) (w : World) (hT : Lib.Utf8Tabs 1 2 w) :
    Calls Tryz.prog 108 #[.string s] w fun e w' => e = .returned (.bool (fitV s)) ∧ Below w.heap.size w w' := by
  have HV := hide (valid_any s w hT)
  clear hT
  unfold fitV
  by_cases h : s.size ≤ 1048576
  · have h' : (s.size : Int) ≤ 1048576 := by omega
    go_enter Tryz.func108, Tryz.ntmps108
    go_wp2_with fail
    refine (unhide HV).mono ?_
    rintro e w1 ⟨rfl, hb⟩
    go_wp2
    go_ret
    refine ⟨?_, hb⟩
    rw [decide_eq_true h]
    rfl
  · have h' : ¬ (s.size : Int) ≤ 1048576 := by omega
    go_enter Tryz.func108, Tryz.ntmps108
    go_wp2
    go_ret
    exact ⟨rfl, Below.refl _ _⟩
def inG (st ft : Bool) (k i : Int) : Bool :=
  !st && (k == 1 || k == 2 || k == 3 || k == 4 || k == 5 && ft || k == 6 && decide (1 ≤ i) && decide (i ≤ 65536) || k == 7 && decide (1 ≤ i) && decide (i ≤ 65536))
def inI (st ft : Bool) (v : VV) : Value := if inG st ft v.k v.i then v.ifc else .nilIface
def goodV (k : Int) (b : Bool) (x : Nat) (s : ByteArray) (i : Int) : Bool := inG (strV k b x s i) (fitV s) k i
def ifcV (v : VV) : Value := inI (strV v.k v.b v.x v.s v.i) (fitV v.s) v
def VV.good (v : VV) : Bool := goodV v.k v.b v.x v.s v.i
/-- A block of five cells, and a call that kept it. -/
theorem five {w w1 : World} {c0 c1 c2 c3 c4 : Value} {t : TypeId} (hb : Below (w.alloc (Obj.cells #[c0, c1, c2, c3, c4] t)).heap.size (w.alloc (Obj.cells #[c0, c1, c2, c3, c4] t)) w1) :
    w1.cell? ⟨w.heap.size, 0, none⟩ = some c0 ∧ w1.cell? ⟨w.heap.size, 1, none⟩ = some c1 ∧ w1.cell? ⟨w.heap.size, 2, none⟩ = some c2 ∧ w1.cell? ⟨w.heap.size, 3, none⟩ = some c3 ∧ w1.cell? ⟨w.heap.size, 4, none⟩ = some c4 ∧
    Below w.heap.size w w1 ∧ w.heap.size < w1.heap.size := by
  have h0 := hb.cell (p := ⟨w.heap.size, 0, none⟩) (by simp)
  have h1 := hb.cell (p := ⟨w.heap.size, 1, none⟩) (by simp)
  have h2 := hb.cell (p := ⟨w.heap.size, 2, none⟩) (by simp)
  have h3 := hb.cell (p := ⟨w.heap.size, 3, none⟩) (by simp)
  have h4 := hb.cell (p := ⟨w.heap.size, 4, none⟩) (by simp)
  simp [go_sem] at h0 h1 h2 h3 h4
  refine ⟨h0, h1, h2, h3, h4, ((Below.refl _ _).alloc (Nat.le_refl _) _).trans (hb.mono (by simp)), ?_⟩
  have := hb.size
  simp at this
  omega
set_option maxHeartbeats 1000000 in
theorem inside_any (k : Int) (b : Bool) (x : Nat) (s : ByteArray) (i : Int) (w : World) (hT : Lib.Utf8Tabs 1 2 w) :
    Calls Tryz.prog 100 #[.agg #[.int .i64 k, .bool b, .float .f64 x, .string s, .int .i64 i]] w fun e w' => e = .returned (.tuple #[ifcV ⟨k, b, x, s, i⟩, .bool (goodV k b x s i)]) ∧ Below w.heap.size w w' := by
  have HS := hide (fun w => strays_any k b x s i w)
  have HF := hide (fun w (hT : Lib.Utf8Tabs 1 2 w) => fits_any s w hT)
  have HT := hide hT
  clear hT
  unfold goodV ifcV
  dsimp only
  generalize strV k b x s i = st at *
  generalize fitV s = ft at *
  cases st
  · by_cases e5 : k = 5
    · subst e5
      go_enter Tryz.func100, Tryz.ntmps100
      go_wp2_with fail
      refine (unhide HS _).mono ?_
      rintro e w1 ⟨rfl, hb⟩
      obtain ⟨c0, c1, c2, c3, c4, hB, hsz⟩ := five hb
      clear hb
      go_wp2_with fail
      refine (unhide HF _ (tabs_below (unhide HT) hB)).mono ?_
      rintro e w2 ⟨rfl, hb2⟩
      have d3 := hb2.cell (p := ⟨w.heap.size, 3, none⟩) hsz
      rw [c3] at d3
      cases ft
      · have d0 := hb2.cell (p := ⟨w.heap.size, 0, none⟩) hsz
        rw [c0] at d0
        go_wp2
        go_ret2
        exact ⟨by simp [inG, inI], hB.trans (hb2.mono hB.size)⟩
      · go_wp2
        go_ret2
        exact ⟨by simp [inG, inI, VV.ifc], hB.trans (hb2.mono hB.size)⟩
    · have hk : k = 1 ∨ k = 2 ∨ k = 3 ∨ k = 4 ∨ k = 6 ∨ k = 7 ∨ (k == 1) = false ∧ (k == 2) = false ∧ (k == 3) = false ∧ (k == 4) = false ∧ (k == 5) = false ∧ (k == 6) = false ∧ (k == 7) = false := by
        simp only [beq_eq_false_iff_ne]
        omega
      clear e5 HF HT
      rcases hk with rfl | rfl | rfl | rfl | rfl | rfl | ⟨e1, e2, e3, e4, e5, e6, e7⟩
      all_goals
        go_enter Tryz.func100, Tryz.ntmps100
        go_wp2_with fail
        refine (unhide HS _).mono ?_
        rintro e w1 ⟨rfl, hb⟩
        obtain ⟨c0, c1, c2, c3, c4, hB, hsz⟩ := five hb
        clear hb HS
        go_wp2
        all_goals
          go_ret2
          refine ⟨?_, hB⟩
          simp [inG, inI, VV.ifc, *]
          try omega
  · go_enter Tryz.func100, Tryz.ntmps100
    go_wp2_with fail
    refine (unhide HS _).mono ?_
    rintro e w1 ⟨rfl, hb⟩
    obtain ⟨c0, c1, c2, c3, c4, hB, hsz⟩ := five hb
    go_wp2
    go_ret2
    exact ⟨by simp [inG, inI], hB⟩
theorem empty_of {s : ByteArray} (h : s.toList.isEmpty = true) : s = ByteArray.empty := by
  cases s with
  | mk d =>
    rw [Lib.toList_data] at h
    have : d.toList = [] := by simpa using h
    have h2 : d = #[] := Array.toList_inj.1 (by simpa using this)
    subst h2; rfl
/-- What a well formed value can be. -/
theorem good_cases {k : Int} {b : Bool} {x : Nat} {s : ByteArray} {i : Int} (h : goodV k b x s i = true) :
    (k = 1 ∧ b = false ∧ x = 0 ∧ s = ByteArray.empty ∧ i = 0) ∨ (k = 2 ∧ b = false ∧ x = 0 ∧ s = ByteArray.empty ∧ i = 0) ∨ (k = 3 ∧ x = 0 ∧ s = ByteArray.empty ∧ i = 0) ∨ (k = 4 ∧ b = false ∧ s = ByteArray.empty ∧ i = 0) ∨
    (k = 5 ∧ b = false ∧ x = 0 ∧ i = 0 ∧ fitV s = true) ∨ (k = 6 ∧ b = false ∧ x = 0 ∧ s = ByteArray.empty ∧ 1 ≤ i ∧ i ≤ 65536) ∨ (k = 7 ∧ b = false ∧ x = 0 ∧ s = ByteArray.empty ∧ 1 ≤ i ∧ i ≤ 65536) := by
  have hs := @empty_of s
  unfold goodV inG strV at h
  generalize fitV s = ft at *
  generalize s.toList.isEmpty = q at *
  have hk : k = 1 ∨ k = 2 ∨ k = 3 ∨ k = 4 ∨ k = 5 ∨ k = 6 ∨ k = 7 := by
    simp at h
    omega
  rcases hk with rfl | rfl | rfl | rfl | rfl | rfl | rfl <;> cases b <;> cases q <;> simp at h hs <;> simp [h, hs]
end Go.Proofs.YtcflglloopgieaaGreatDoor

/-! Da -/
namespace Go.Proofs.YtcflglloopgieaaGreatDoor
open Go Go.Proofs Go.RowKit
set_option linter.unusedSimpArgs false
set_option linter.unusedVariables false
/-- A descriptor of the program, field by field. -/
structure DD where
  v : VV
  g : VV
  s : VV
  w : Int
  e : Int
  c : Int
def DD.agg (d : DD) : Value := .agg #[.int .i64 d.v.k, .bool d.v.b, .float .f64 d.v.x, .string d.v.s, .int .i64 d.v.i, .int .i64 d.g.k, .bool d.g.b, .float .f64 d.g.x, .string d.g.s, .int .i64 d.g.i, .int .i64 d.s.k, .bool d.s.b, .float .f64 d.s.x, .string d.s.s, .int .i64 d.s.i, .int .i64 d.w, .int .i64 d.e, .int .i64 d.c]
def DD.obj (d : DD) : Obj := Obj.cells #[.int .i64 d.v.k, .bool d.v.b, .float .f64 d.v.x, .string d.v.s, .int .i64 d.v.i, .int .i64 d.g.k, .bool d.g.b, .float .f64 d.g.x, .string d.g.s, .int .i64 d.g.i, .int .i64 d.s.k, .bool d.s.b, .float .f64 d.s.x, .string d.s.s, .int .i64 d.s.i, .int .i64 d.w, .int .i64 d.e, .int .i64 d.c] 59
def VV.obj (d : VV) : Obj := Obj.cells #[.int .i64 d.k, .bool d.b, .float .f64 d.x, .string d.s, .int .i64 d.i] 31
def zeroV : VV := ⟨0, false, 0, ⟨#[]⟩, 0⟩
def zeroD : DD := ⟨zeroV, zeroV, zeroV, 0, 0, 0⟩
/-- A descriptor lies in block B. -/
def Lies (W : World) (B : Nat) (d : DD) : Prop := (∀ j, W.frozen? ⟨B, j, none⟩ = false) ∧ W.cell? ⟨B, 0, none⟩ = some (.int .i64 d.v.k) ∧ W.cell? ⟨B, 1, none⟩ = some (.bool d.v.b) ∧ W.cell? ⟨B, 2, none⟩ = some (.float .f64 d.v.x) ∧ W.cell? ⟨B, 3, none⟩ = some (.string d.v.s) ∧ W.cell? ⟨B, 4, none⟩ = some (.int .i64 d.v.i) ∧ W.cell? ⟨B, 5, none⟩ = some (.int .i64 d.g.k) ∧ W.cell? ⟨B, 6, none⟩ = some (.bool d.g.b) ∧ W.cell? ⟨B, 7, none⟩ = some (.float .f64 d.g.x) ∧ W.cell? ⟨B, 8, none⟩ = some (.string d.g.s) ∧ W.cell? ⟨B, 9, none⟩ = some (.int .i64 d.g.i) ∧ W.cell? ⟨B, 10, none⟩ = some (.int .i64 d.s.k) ∧ W.cell? ⟨B, 11, none⟩ = some (.bool d.s.b) ∧ W.cell? ⟨B, 12, none⟩ = some (.float .f64 d.s.x) ∧ W.cell? ⟨B, 13, none⟩ = some (.string d.s.s) ∧ W.cell? ⟨B, 14, none⟩ = some (.int .i64 d.s.i) ∧ W.cell? ⟨B, 15, none⟩ = some (.int .i64 d.w) ∧ W.cell? ⟨B, 16, none⟩ = some (.int .i64 d.e) ∧ W.cell? ⟨B, 17, none⟩ = some (.int .i64 d.c)
/-- A value lies in block B. -/
def VLies (W : World) (B : Nat) (d : VV) : Prop := (∀ j, W.frozen? ⟨B, j, none⟩ = false) ∧ W.cell? ⟨B, 0, none⟩ = some (.int .i64 d.k) ∧ W.cell? ⟨B, 1, none⟩ = some (.bool d.b) ∧ W.cell? ⟨B, 2, none⟩ = some (.float .f64 d.x) ∧ W.cell? ⟨B, 3, none⟩ = some (.string d.s) ∧ W.cell? ⟨B, 4, none⟩ = some (.int .i64 d.i)
theorem Lies.new (w : World) (B : Nat) (hB : B = w.heap.size) (d : DD) : Lies (w.alloc d.obj) B d := by
  subst hB
  unfold Lies DD.obj
  simp [go_sem]
theorem Lies.on {W W1 : World} {B : Nat} {d : DD} (h : Lies W B d) (hB : B < W.heap.size) (hb : Below W.heap.size W W1) : Lies W1 B d := by
  unfold Lies at *
  simp only [hb.cell (p := ⟨B, _, none⟩) hB, hb.frozen (p := ⟨B, _, none⟩) hB]
  exact h
theorem VLies.new (w : World) (B : Nat) (hB : B = w.heap.size) (d : VV) : VLies (w.alloc d.obj) B d := by
  subst hB
  unfold VLies VV.obj
  simp [go_sem]
theorem VLies.on {W W1 : World} {B : Nat} {d : VV} (h : VLies W B d) (hB : B < W.heap.size) (hb : Below W.heap.size W W1) : VLies W1 B d := by
  unfold VLies at *
  simp only [hb.cell (p := ⟨B, _, none⟩) hB, hb.frozen (p := ⟨B, _, none⟩) hB]
  exact h
/-- What a function has boxed. -/
inductive PB where
  | D (d : DD)
  | V (v : VV)
def PB.obj : PB → Obj
  | .D d => d.obj
  | .V v => v.obj
def PB.lies (W : World) (B : Nat) : PB → Prop
  | .D d => Lies W B d
  | .V v => VLies W B v
theorem PB.new (w : World) (B : Nat) (hB : B = w.heap.size) (p : PB) : p.lies (w.alloc p.obj) B := by
  cases p
  · exact Lies.new w B hB _
  · exact VLies.new w B hB _
theorem PB.on {W W1 : World} {B : Nat} {p : PB} (h : p.lies W B) (hB : B < W.heap.size) (hb : Below W.heap.size W W1) : p.lies W1 B := by
  cases p
  · exact Lies.on h hB hb
  · exact VLies.on h hB hb
theorem PB.drew {W : World} {B : Nat} {p : PB} (h : p.lies W B) : p.lies W.drew B := by
  cases p
  · exact h
  · exact h
def HoldsP (W : World) (B : Nat) : List PB → Prop
  | [] => True
  | p :: r => p.lies W B ∧ HoldsP W (B + 1) r
theorem HoldsP.on {W W1 : World} (hb : Below W.heap.size W W1) : ∀ {l : List PB} {B : Nat}, HoldsP W B l → B + l.length ≤ W.heap.size → HoldsP W1 B l
  | [], _, _, _ => trivial
  | p :: r, B, h, hs => ⟨PB.on h.1 (by simp at hs; omega) hb, HoldsP.on hb h.2 (by simp at hs; omega)⟩
theorem HoldsP.drew {W : World} : ∀ {l : List PB} {B : Nat}, HoldsP W B l → HoldsP W.drew B l
  | [], _, _ => trivial
  | _ :: _, _, h => ⟨PB.drew h.1, h.2.drew⟩
theorem HoldsP.snoc {W : World} {p : PB} : ∀ {l : List PB} {B : Nat}, HoldsP W B l → p.lies W (B + l.length) → HoldsP W B (l ++ [p])
  | [], B, _, h => ⟨by simpa using h, trivial⟩
  | q :: r, B, hl, h => ⟨hl.1, HoldsP.snoc hl.2 (by
      have e : B + 1 + r.length = B + (q :: r).length := by
        simp
        omega
      rw [e]
      exact h)⟩
/-- What a function has boxed lies where it lay, and what was there ahead of it is as it was. -/
structure Lie (w W : World) (l : List PB) : Prop where
  below : Below w.heap.size w W
  size : w.heap.size + l.length ≤ W.heap.size
  holds : HoldsP W w.heap.size l
theorem Lie.nil (w : World) : Lie w w [] := ⟨Below.refl _ _, by simp, trivial⟩
theorem Lie.push {w W : World} {l : List PB} (h : Lie w W l) (hs : W.heap.size = w.heap.size + l.length) (p : PB) : Lie w (W.alloc p.obj) (l ++ [p]) := by
  refine ⟨h.below.alloc (by omega) _, by simp; omega, HoldsP.snoc (h.holds.on ((Below.refl _ _).alloc (Nat.le_refl _) _) (by omega)) (PB.new W _ (by omega) p)⟩
theorem Lie.on {w W W1 : World} {l : List PB} (h : Lie w W l) (hb : Below W.heap.size W W1) : Lie w W1 l :=
  ⟨h.below.trans (hb.mono h.below.size), Nat.le_trans h.size hb.size, h.holds.on hb h.size⟩
theorem Lie.drew {w W : World} {l : List PB} (h : Lie w W l) : Lie w W.drew l := ⟨h.below.drew, h.size, h.holds.drew⟩
theorem Lie.new1 (w : World) (p : PB) : Lie w (w.alloc p.obj) [p] := (Lie.nil w).push (by simp) p
theorem Lie.new2 (w : World) (p q : PB) : Lie w ((w.alloc p.obj).alloc q.obj) [p, q] := (Lie.new1 w p).push (by simp) q
theorem Lie.one {w W : World} {p : PB} {l : List PB} (h : Lie w W (p :: l)) : p.lies W w.heap.size := h.holds.1
theorem Lie.two {w W : World} {p q : PB} {l : List PB} (h : Lie w W (p :: q :: l)) : q.lies W (w.heap.size + 1) := h.holds.2.1
end Go.Proofs.YtcflglloopgieaaGreatDoor

/-! Vc -/
namespace Go.Proofs.YtcflglloopgieaaGreatDoor
open Go.RowKit FM
attribute [local go_sem] bits_run
theorem m56 (w : World) : (method 276 141 (.agg #[]) "cameo/value.kind").run Tryz.prog w = .ok (147, .agg #[]) w := by kernel_rfl
theorem m57 (w : World) : (method 276 142 (.agg #[]) "cameo/value.kind").run Tryz.prog w = .ok (148, .agg #[]) w := by kernel_rfl
theorem m58 (b : Bool) (w : World) : (method 276 132 (.bool b) "cameo/value.kind").run Tryz.prog w = .ok (143, .bool b) w := by kernel_rfl
theorem m59 (x : Nat) (w : World) : (method 276 121 (.float .f64 x) "cameo/value.kind").run Tryz.prog w = .ok (142, .float .f64 x) w := by kernel_rfl
theorem m79 (s : ByteArray) (w : World) : (method 276 133 (.string s) "cameo/value.kind").run Tryz.prog w = .ok (144, .string s) w := by kernel_rfl
theorem m81 (i : Int) (w : World) : (method 276 134 (.int .i64 i) "cameo/value.kind").run Tryz.prog w = .ok (145, .int .i64 i) w := by kernel_rfl
theorem m82 (i : Int) (w : World) : (method 276 135 (.int .i64 i) "cameo/value.kind").run Tryz.prog w = .ok (146, .int .i64 i) w := by kernel_rfl
theorem run_store_float (P : Program) (w : World) (a : Addr) (m : Mode) (k : FloatKind) (x : Nat) : (store a (.float k x) m).run P w = stored P w a (.float k x) m := run_store P w a _ m rfl
theorem ta56 (u : TypeId) (v : Value) (w : World) : (Instr.typeAssert (.iface u v) 127 141 true).run Tryz.prog w = .ok (if u = 141 then .tuple #[v, .bool true] else .tuple #[.agg #[], .bool false]) w := by
  by_cases h : u = 141 <;> simp [Instr.typeAssert, run_underlying Tryz.underlying141, h, Tryz.zeroValue141]
theorem ta57 (u : TypeId) (v : Value) (w : World) : (Instr.typeAssert (.iface u v) 127 142 true).run Tryz.prog w = .ok (if u = 142 then .tuple #[v, .bool true] else .tuple #[.agg #[], .bool false]) w := by
  by_cases h : u = 142 <;> simp [Instr.typeAssert, run_underlying Tryz.underlying142, h, Tryz.zeroValue142]
theorem ta58 (u : TypeId) (v : Value) (w : World) : (Instr.typeAssert (.iface u v) 127 132 true).run Tryz.prog w = .ok (if u = 132 then .tuple #[v, .bool true] else .tuple #[.bool false, .bool false]) w := by
  by_cases h : u = 132 <;> simp [Instr.typeAssert, run_underlying Tryz.underlying132, h, Tryz.zeroValue132]
theorem ta59 (u : TypeId) (v : Value) (w : World) : (Instr.typeAssert (.iface u v) 127 121 true).run Tryz.prog w = .ok (if u = 121 then .tuple #[v, .bool true] else .tuple #[.float .f64 0, .bool false]) w := by
  by_cases h : u = 121 <;> simp [Instr.typeAssert, run_underlying Tryz.underlying121, h, Tryz.zeroValue121]
theorem ta79 (u : TypeId) (v : Value) (w : World) : (Instr.typeAssert (.iface u v) 127 133 true).run Tryz.prog w = .ok (if u = 133 then .tuple #[v, .bool true] else .tuple #[.string ⟨#[]⟩, .bool false]) w := by
  by_cases h : u = 133 <;> simp [Instr.typeAssert, run_underlying Tryz.underlying133, h, Tryz.zeroValue133]
theorem ta81 (u : TypeId) (v : Value) (w : World) : (Instr.typeAssert (.iface u v) 127 134 true).run Tryz.prog w = .ok (if u = 134 then .tuple #[v, .bool true] else .tuple #[.int .i64 0, .bool false]) w := by
  by_cases h : u = 134 <;> simp [Instr.typeAssert, run_underlying Tryz.underlying134, h, Tryz.zeroValue134]
theorem ta82 (u : TypeId) (v : Value) (w : World) : (Instr.typeAssert (.iface u v) 127 135 true).run Tryz.prog w = .ok (if u = 135 then .tuple #[v, .bool true] else .tuple #[.int .i64 0, .bool false]) w := by
  by_cases h : u = 135 <;> simp [Instr.typeAssert, run_underlying Tryz.underlying135, h, Tryz.zeroValue135]
attribute [local go_sem] m56 m57 m58 m59 m79 m81 m82 run_store_float ta56 ta57 ta58 ta59 ta79 ta81 ta82
theorem below2 (w : World) (o1 o2 : Obj) : Below w.heap.size w ((w.alloc o1).alloc o2) := ((Below.refl _ _).alloc (Nat.le_refl _) _).alloc (by simp) _
set_option maxRecDepth 100000 in
theorem outside4 (x : Nat) (w : World) : Calls Tryz.prog 94 #[.iface 121 (.float .f64 x)] w fun e w' => e = .returned (VV.agg ⟨4, false, x, ByteArray.empty, 0⟩) ∧ Below w.heap.size w w' := by
  unfold VV.agg
  go_enter Tryz.func94, Tryz.ntmps94
  go_wp2
  simp [bodyPost, results, Tryz.results94, go_sem]
  exact ⟨rfl, below2 ..⟩
theorem ifcV_good {v : VV} (h : v.good = true) : ifcV v = v.ifc := by
  unfold VV.good goodV at h
  unfold ifcV inI
  rw [if_pos h]
end Go.Proofs.YtcflglloopgieaaGreatDoor

/-! Wd -/
namespace Go.Proofs.YtcflglloopgieaaGreatDoor
open Go.RowKit Go.Shelf
attribute [local go_sem] Oper.semAt_some

/-- a code point; a code point and where it begins -/
abbrev CP := { c : Nat // c ≤ 1114111 }
def bytes (cs : List CP) : List Nat := (cs.map (·.1)).flatMap M.E

end Go.Proofs.YtcflglloopgieaaGreatDoor

/-! Wk -/
namespace Go.Proofs.YtcflglloopgieaaGreatDoor
open Go.RowKit Go.Shelf

theorem toList_inj {s t : ByteArray} (h : s.toList = t.toList) : s = t := by
  rw [Lib.toList_data, Lib.toList_data] at h
  cases s; cases t
  simp only [ByteArray.mk.injEq]
  exact Array.toList_inj.1 h
end Go.Proofs.YtcflglloopgieaaGreatDoor

/-! Vd -/
namespace Go.Proofs.YtcflglloopgieaaGreatDoor
open Go.RowKit FM
attribute [local go_sem] bits_run run_store_float

theorem zero_order (x : Nat) (hx : x < 2 ^ 64) : (FloatKind.f64.format.order x 0 == some .eq) = (decide (x = 0) || decide (x = 9223372036854775808)) := by
  rw [eq_order x 0 hx (by decide)]
  unfold equalV same0V sameV
  have e1 : isN 0 = false := by decide +kernel
  have e2 : sz 0 = 0 := by decide +kernel
  rw [e1, e2]
  by_cases h : sz x = 0
  · rw [sz0_nan h]
    unfold sz at h
    have : x = 0 ∨ x = 9223372036854775808 := by omega
    rcases this with rfl | rfl <;> simp [sz]
  · have h1 : ¬ x = 0 := by rintro rfl; exact h e2
    have h2 : ¬ x = 9223372036854775808 := by rintro rfl; exact h (by decide +kernel)
    simp [h, h1, h2]
theorem quo_pos (w : World) : (binOp .quo 29 (.float .f64 4607182418800017408) (.float .f64 0)).run Tryz.prog w = .ok (.float .f64 9218868437227405312) w := by kernel_rfl
theorem quo_neg (w : World) : (binOp .quo 29 (.float .f64 4607182418800017408) (.float .f64 9223372036854775808)).run Tryz.prog w = .ok (.float .f64 18442240474082181120) w := by kernel_rfl
end Go.Proofs.YtcflglloopgieaaGreatDoor

/-! Db -/
namespace Go.Proofs.YtcflglloopgieaaGreatDoor
open Go Go.Proofs Go.RowKit FM
set_option linter.unusedSimpArgs false
set_option linter.unusedVariables false
theorem run_equalIn_float {P : Program} (d : Nat) (t : TypeId) (a b : Nat) (w : World) (h : P.underlying t = some (.float .f64)) : (Op.equalIn (d + 1) t (.float .f64 a) (.float .f64 b)).run P w = .ok (FloatKind.f64.format.order a b == some .eq) w := by
  simp [Op.equalIn, run_underlying h]
  rfl
section
attribute [local go_sem] bits_run
theorem signbit_any (x : Nat) (hx : x < 2 ^ 64) (w : World) : Calls Tryz.prog 110 #[.float .f64 x] w fun e w' => e = .returned (.bool (decide (2 ^ 63 ≤ x))) ∧ w' = w := by
  have h : (wrap64 (x : Int) < 0) = (2 ^ 63 ≤ x) := by
    unfold wrap64
    rw [eq_iff_iff]
    omega
  go_enter Tryz.func110, Tryz.ntmps110
  go_wp2
  go_ret
  exact ⟨by simp, rfl⟩
end
def thV (v : VV) : Bool := !(v.k == 0 && !v.b && v.x == 0 && v.s.toList.isEmpty && v.i == 0)
attribute [local go_sem] run_equalIn_float
set_option maxHeartbeats 1000000 in
set_option maxRecDepth 100000 in
theorem there_any (v : VV) (hx : v.x < 2 ^ 64) (w : World) : Calls Tryz.prog 104 #[v.agg] w fun e w' => e = .returned (.bool (thV v)) ∧ Below w.heap.size w w' := by
  have hz := zero_order v.x hx
  have HS := hide (signbit_any v.x hx)
  obtain ⟨k, b, x, s, i⟩ := v
  unfold VV.agg thV
  dsimp only at *
  by_cases hk : k = 0
  · subst hk
    cases b
    · generalize hq : (FloatKind.f64.format.order x 0 == some .eq) = q at *
      cases q
      · have hx0 : (x == 0) = false := by
          simp at hz
          simp [hz]
        rw [hx0]
        have hq2 : ¬ FloatKind.f64.format.order x 0 = some .eq := by simpa using hq
        clear hz hq HS hx hx0
        go_enter Tryz.func104, Tryz.ntmps104
        go_wp2
        go_ret
        exact ⟨rfl, (Below.refl w.heap.size w).alloc (Nat.le_refl _) _⟩
      · have hx0 : x = 0 ∨ x = 2 ^ 63 := by
          simp at hz
          omega
        have hq2 : FloatKind.f64.format.order x 0 = some .eq := by simpa using hq
        by_cases hs : s.toList.isEmpty = true
        · have hs2 := empty_of hs
          subst hs2
          by_cases hi : i = 0
          · subst hi
            have hr : (!((0 : Int) == 0 && !false && x == 0 && ByteArray.empty.toList.isEmpty && (0 : Int) == 0)) = decide (2 ^ 63 ≤ x) := by
              rw [hs]
              rcases hx0 with rfl | rfl <;> rfl
            rw [hr]
            generalize decide (2 ^ 63 ≤ x) = r at *
            clear hz hq hx hx0 hr hs
            go_enter Tryz.func104, Tryz.ntmps104
            go_wp2_with fail
            refine (unhide HS _).mono ?_
            rintro e w1 ⟨rfl, rfl⟩
            go_wp2
            go_ret
            exact ⟨rfl, (Below.refl w.heap.size w).alloc (Nat.le_refl _) _⟩
          · have hi2 : (i == 0) = false := by simp [hi]
            rw [hi2, Bool.and_false]
            clear hz hq hx hx0 hs HS
            go_enter Tryz.func104, Tryz.ntmps104
            go_wp2
            go_ret
            exact ⟨rfl, (Below.refl w.heap.size w).alloc (Nat.le_refl _) _⟩
        · have hs1 : s.toList.isEmpty = false := by simpa using hs
          have hs2 : ¬ s.toList = [] := by simpa using hs1
          rw [hs1, Bool.and_false, Bool.false_and]
          clear hz hq hx hx0 hs HS hs1
          go_enter Tryz.func104, Tryz.ntmps104
          go_wp2
          go_ret
          exact ⟨rfl, (Below.refl w.heap.size w).alloc (Nat.le_refl _) _⟩
    · clear hz HS hx
      go_enter Tryz.func104, Tryz.ntmps104
      go_wp2
      go_ret
      exact ⟨rfl, (Below.refl w.heap.size w).alloc (Nat.le_refl _) _⟩
  · clear hz HS hx
    have hk2 : (k == 0) = false := by simp [hk]
    rw [hk2]
    go_enter Tryz.func104, Tryz.ntmps104
    go_wp2
    go_ret
    exact ⟨rfl, (Below.refl w.heap.size w).alloc (Nat.le_refl _) _⟩
end Go.Proofs.YtcflglloopgieaaGreatDoor

/-! Dc -/
namespace Go.Proofs.YtcflglloopgieaaGreatDoor
open Go Go.Proofs Go.RowKit FM
set_option linter.unusedSimpArgs false
set_option linter.unusedVariables false
def shapeV (d : DD) : Int := if (thV d.v || d.w != 0) && (thV d.g || thV d.s) then 0 else if thV d.v || d.w != 0 then 2 else if thV d.g || thV d.s then 3 else 1
def triV (t : Int) : Bool := t == 0 || t == 1 || t == 2
theorem said_any (t : Int) (w : World) : Calls Tryz.prog 97 #[.int .i64 t] w fun e w' => e = .returned (.bool (t != 0)) ∧ w' = w := by
  go_enter Tryz.func97, Tryz.ntmps97
  go_wp2
  go_ret
  exact ⟨rfl, rfl⟩
theorem oneOfThree_any (t : Int) (w : World) : Calls Tryz.prog 117 #[.int .i64 t] w fun e w' => e = .returned (.bool (triV t)) ∧ w' = w := by
  unfold triV
  by_cases h0 : t = 0
  · subst h0
    go_enter Tryz.func117, Tryz.ntmps117
    go_wp2
    go_ret
    exact ⟨rfl, rfl⟩
  · have h0' : (t == 0) = false := by simp [h0]
    by_cases h1 : t = 1
    · subst h1
      go_enter Tryz.func117, Tryz.ntmps117
      go_wp2
      go_ret
      exact ⟨rfl, rfl⟩
    · have h1' : (t == 1) = false := by simp [h1]
      rw [h0', h1']
      go_enter Tryz.func117, Tryz.ntmps117
      go_wp2
      go_ret
      exact ⟨rfl, rfl⟩
theorem refTri_any (t : Int) (w : World) : Calls Tryz.prog 90 #[.int .i64 t] w fun e w' => e = .returned (.bool (triV t)) ∧ w' = w := by
  unfold triV
  by_cases h0 : t = 0
  · subst h0
    go_enter Tryz.func90, Tryz.ntmps90
    go_wp2
    go_ret
    exact ⟨rfl, rfl⟩
  · have h0' : (t == 0) = false := by simp [h0]
    by_cases h1 : t = 1
    · subst h1
      go_enter Tryz.func90, Tryz.ntmps90
      go_wp2
      go_ret
      exact ⟨rfl, rfl⟩
    · have h1' : (t == 1) = false := by simp [h1]
      rw [h0', h1']
      go_enter Tryz.func90, Tryz.ntmps90
      go_wp2
      go_ret
      exact ⟨rfl, rfl⟩
/-- The floats of a descriptor are floats. -/
def FD (d : DD) : Prop := d.v.x < 2 ^ 64 ∧ d.g.x < 2 ^ 64 ∧ d.s.x < 2 ^ 64
section
attribute [local go_sem] quo_pos quo_neg
end
end Go.Proofs.YtcflglloopgieaaGreatDoor

/-! Vf -/
namespace Go.Proofs.YtcflglloopgieaaGreatDoor
open Go.RowKit FM
attribute [local go_sem] bits_run run_store_float
/-- Five cells of a block that may be written. -/
structure Five (w : World) (B : Nat) (c0 c1 c2 c3 c4 : Value) : Prop where
  h0 : w.cell? ⟨B, 0, none⟩ = some c0
  h1 : w.cell? ⟨B, 1, none⟩ = some c1
  h2 : w.cell? ⟨B, 2, none⟩ = some c2
  h3 : w.cell? ⟨B, 3, none⟩ = some c3
  h4 : w.cell? ⟨B, 4, none⟩ = some c4
  fz : ∀ j, w.frozen? ⟨B, j, none⟩ = false
  lt : B < w.heap.size
theorem five_new (w : World) (B : Nat) (c0 c1 c2 c3 c4 : Value) (t : TypeId) (hB : B = w.heap.size) : Five (w.alloc (Obj.cells #[c0, c1, c2, c3, c4] t)) B c0 c1 c2 c3 c4 := by
  subst hB
  refine ⟨?_, ?_, ?_, ?_, ?_, fun j => ?_, ?_⟩ <;> simp [go_sem]
theorem five_below {w w' : World} {B : Nat} {c0 c1 c2 c3 c4 : Value} (h : Five w B c0 c1 c2 c3 c4) (hb : Below w.heap.size w w') : Five w' B c0 c1 c2 c3 c4 :=
  ⟨(hb.cell h.lt).trans h.h0, (hb.cell h.lt).trans h.h1, (hb.cell h.lt).trans h.h2, (hb.cell h.lt).trans h.h3, (hb.cell h.lt).trans h.h4, fun j => (hb.frozen h.lt).trans (h.fz j), Nat.lt_of_lt_of_le h.lt hb.size⟩
def errB (b : Bool) : Int := if b then 0 else 5
theorem check_any (v : VV) (w : World) (hT : Lib.Utf8Tabs 1 2 w) : Calls Tryz.prog 115 #[v.agg] w fun e w' => e = .returned (.int .i64 (errB v.good)) ∧ Below w.heap.size w w' := by
  have HI := hide (inside_any v.k v.b v.x v.s v.i)
  have HT := hide hT
  clear hT
  unfold VV.good
  generalize goodV v.k v.b v.x v.s v.i = g at *
  generalize ifcV ⟨v.k, v.b, v.x, v.s, v.i⟩ = f at *
  obtain ⟨k, b, x, s, i⟩ := v
  unfold VV.agg at *
  dsimp only at *
  cases g
  all_goals
    go_enter Tryz.func115, Tryz.ntmps115
    go_wp2_with fail
    refine (unhide HI _ (tabs_below (unhide HT) ((Below.refl _ _).alloc (Nat.le_refl _) _))).mono ?_
    rintro e w1 ⟨rfl, hb⟩
    go_wp2
    go_ret
    exact ⟨rfl, ((Below.refl _ _).alloc (Nat.le_refl _) _).trans (hb.mono (by simp))⟩
end Go.Proofs.YtcflglloopgieaaGreatDoor

/-! Vg -/
namespace Go.Proofs.YtcflglloopgieaaGreatDoor
open Go.RowKit FM
attribute [local go_sem] bits_run run_store_float
def eqB (a b : VV) : Bool := (decide (a.x = b.x) || isN a.x && isN b.x) && a.k == b.k && a.b == b.b && decide (a.s.toList = b.s.toList) && a.i == b.i
end Go.Proofs.YtcflglloopgieaaGreatDoor
