import Derived.Test.YtmgflhhealdfoaaGreatDoorQc
import Derived.Test.YtmgflhhealdfoaaGreatDoorQe
import Derived.WalkSpells
import Derived.WalkLawsBesides
import Derived.Laws.BitsAllLaws
set_option linter.all false
namespace Go.Proofs.YtmgflhhealdfoaaGreatDoor
section
open Go.RowKit FM
theorem bits_run (b : Nat) (w : World) : (callFunc 39 #[.float .f64 b]).run Tryz.prog w = .ok (.value (.int .u64 (b : Int))) w := by
  rw [run_callFunc_extern Tryz.func39 (by kernel_rfl) (by kernel_rfl) (by kernel_rfl) (e := Extern.MathFloatBits.float64bits) (by kernel_rfl)]; rfl
attribute [local go_sem] bits_run
theorem rb {a b : Bool} (h : a = b) : Ending.returned (.bool a) = Ending.returned (.bool b) := by rw [h]
theorem isnan_any (b : Nat) (w : World) : Calls Tryz.prog 153 #[.float .f64 b] w fun e w' => e = .returned (.bool (isN b)) ∧ w' = w := by
  go_enter Tryz.func153, Tryz.ntmps153
  go_wp2
  go_ret
  exact ⟨by rw [← nanF]; rfl, rfl⟩
def sameV (x y : Nat) : Bool := (isN x && isN y) || decide (x = y)
def same0V (x y : Nat) : Bool := sameV x y || (decide (sz x = 0) && decide (sz y = 0))
def equalV (x y : Nat) : Bool := !isN x && !isN y && same0V x y
theorem fo (x y : Nat) : FloatKind.f64.format.order x y = Ieee.double.order x y := rfl
theorem sz0_nan {b : Nat} (h : sz b = 0) : isN b = false := by
  unfold isN; rw [h]; decide

theorem same_any (x y : Nat) (w : World) : Calls Tryz.prog 151 #[.float .f64 x, .float .f64 y] w fun e w' => e = .returned (.bool (sameV x y)) ∧ w' = w := by
  cases hx : isN x
  · cases hy : isN y
    · go_enter Tryz.func151, Tryz.ntmps151
      go_wp2_with fail
      refine (isnan_any x _).mono ?_
      rintro e w' ⟨rfl, rfl⟩
      rw [hx]
      go_wp2_with fail
      refine (isnan_any y _).mono ?_
      rintro e w' ⟨rfl, rfl⟩
      rw [hy]
      go_wp2
      go_ret
      refine ⟨rb ?_, rfl⟩
      unfold sameV
      rw [hx, hy, Bool.eq_iff_iff]
      simp
      omega
    · go_enter Tryz.func151, Tryz.ntmps151
      go_wp2_with fail
      refine (isnan_any x _).mono ?_
      rintro e w' ⟨rfl, rfl⟩
      rw [hx]
      go_wp2_with fail
      refine (isnan_any y _).mono ?_
      rintro e w' ⟨rfl, rfl⟩
      rw [hy]
      go_wp2_with fail
      refine (isnan_any x _).mono ?_
      rintro e w' ⟨rfl, rfl⟩
      rw [hx]
      go_wp2
      go_ret
      refine ⟨rb ?_, rfl⟩
      unfold sameV
      have hne : x ≠ y := fun e => by rw [e, hy] at hx; cases hx
      simp [hx, hne]
  · cases hy : isN y
    · go_enter Tryz.func151, Tryz.ntmps151
      go_wp2_with fail
      refine (isnan_any x _).mono ?_
      rintro e w' ⟨rfl, rfl⟩
      rw [hx]
      go_wp2_with fail
      refine (isnan_any x _).mono ?_
      rintro e w' ⟨rfl, rfl⟩
      rw [hx]
      go_wp2_with fail
      refine (isnan_any y _).mono ?_
      rintro e w' ⟨rfl, rfl⟩
      rw [hy]
      go_wp2
      go_ret
      refine ⟨rb ?_, rfl⟩
      unfold sameV
      have hne : x ≠ y := fun e => by rw [e, hy] at hx; cases hx
      simp [hy, hne]
    · go_enter Tryz.func151, Tryz.ntmps151
      go_wp2_with fail
      refine (isnan_any x _).mono ?_
      rintro e w' ⟨rfl, rfl⟩
      rw [hx]
      go_wp2_with fail
      refine (isnan_any x _).mono ?_
      rintro e w' ⟨rfl, rfl⟩
      rw [hx]
      go_wp2_with fail
      refine (isnan_any y _).mono ?_
      rintro e w' ⟨rfl, rfl⟩
      rw [hy]
      go_wp2
      go_ret
      refine ⟨rb ?_, rfl⟩
      simp [sameV, hx, hy]
theorem eq_order (x y : Nat) (hx64 : x < 2 ^ 64) (hy64 : y < 2 ^ 64) : (FloatKind.f64.format.order x y == some .eq) = equalV x y := by
  rw [fo, eqF x y hx64 hy64]
  unfold equalV same0V sameV
  cases isN x <;> cases isN y <;> simp
end
section
open Go.RowKit
attribute [local go_sem] bits_run
/-- A value of the program, field by field. -/
structure VV where
  k : Int
  b : Bool
  x : Nat
  s : ByteArray
  i : Int
def VV.agg (v : VV) : Value := .agg #[.int .i64 v.k, .bool v.b, .float .f64 v.x, .string v.s, .int .i64 v.i]
def VV.ifc (v : VV) : Value :=
  if v.k = 1 then .iface 159 (.agg #[]) else if v.k = 2 then .iface 160 (.agg #[]) else if v.k = 3 then .iface 161 (.bool v.b) else if v.k = 4 then .iface 162 (.float .f64 v.x)
  else if v.k = 5 then .iface 163 (.string v.s) else if v.k = 6 then .iface 164 (.int .i64 v.i) else .iface 165 (.int .i64 v.i)
def strV (k : Int) (b : Bool) (x : Nat) (s : ByteArray) (i : Int) : Bool :=
  b && k != 3 || x != 0 && k != 4 || !s.toList.isEmpty && k != 5 || i != 0 && k != 6 && k != 7

set_option maxHeartbeats 1000000 in
theorem strays_any (k : Int) (b : Bool) (x : Nat) (s : ByteArray) (i : Int) (w : World) :
    Calls Tryz.prog 84 #[.agg #[.int .i64 k, .bool b, .float .f64 x, .string s, .int .i64 i]] w fun e w' => e = .returned (.bool (strV k b x s i)) ∧ Below w.heap.size w w' := by
  unfold strV
  cases b
  all_goals
    go_enter Tryz.func84, Tryz.ntmps84
    go_wp2
    all_goals
      go_ret
      refine ⟨?_, (Below.refl _ _).alloc (Nat.le_refl _) _⟩
      simp [*]
def fitV (s : ByteArray) : Bool := decide (s.size ≤ 1048576) && M.valid false (nums s)
theorem fits_any (s : ByteArray) (w : World) (hT : Lib.Utf8Tabs 1 2 w) :
    Calls Tryz.prog 85 #[.string s] w fun e w' => e = .returned (.bool (fitV s)) ∧ Below w.heap.size w w' := by
  have HV := hide (valid_any s w hT)
  clear hT
  unfold fitV
  by_cases h : s.size ≤ 1048576
  · have h' : (s.size : Int) ≤ 1048576 := by omega
    go_enter Tryz.func85, Tryz.ntmps85
    go_wp2_with fail
    refine (unhide HV).mono ?_
    rintro e w1 ⟨rfl, hb⟩
    go_wp2
    go_ret
    refine ⟨?_, hb⟩
    rw [decide_eq_true h]
    rfl
  · have h' : ¬ (s.size : Int) ≤ 1048576 := by omega
    go_enter Tryz.func85, Tryz.ntmps85
    go_wp2
    go_ret
    exact ⟨rfl, Below.refl _ _⟩
def inG (st ft : Bool) (k i : Int) : Bool :=
  !st && (k == 1 || k == 2 || k == 3 || k == 4 || k == 5 && ft || k == 6 && decide (1 ≤ i) && decide (i ≤ 65536) || k == 7 && decide (1 ≤ i) && decide (i ≤ 65536))
def inI (st ft : Bool) (v : VV) : Value := if inG st ft v.k v.i then v.ifc else .nilIface
def goodV (k : Int) (b : Bool) (x : Nat) (s : ByteArray) (i : Int) : Bool := inG (strV k b x s i) (fitV s) k i
def ifcV (v : VV) : Value := inI (strV v.k v.b v.x v.s v.i) (fitV v.s) v
def VV.good (v : VV) : Bool := goodV v.k v.b v.x v.s v.i
/-- A block of five cells, and a call that kept it. -/
theorem five {w w1 : World} {c0 c1 c2 c3 c4 : Value} {t : TypeId} (hb : Below (w.alloc (Obj.cells #[c0, c1, c2, c3, c4] t)).heap.size (w.alloc (Obj.cells #[c0, c1, c2, c3, c4] t)) w1) :
    w1.cell? ⟨w.heap.size, 0, none⟩ = some c0 ∧ w1.cell? ⟨w.heap.size, 1, none⟩ = some c1 ∧ w1.cell? ⟨w.heap.size, 2, none⟩ = some c2 ∧ w1.cell? ⟨w.heap.size, 3, none⟩ = some c3 ∧ w1.cell? ⟨w.heap.size, 4, none⟩ = some c4 ∧
    Below w.heap.size w w1 ∧ w.heap.size < w1.heap.size := by
  have h0 := hb.cell (p := ⟨w.heap.size, 0, none⟩) (by simp)
  have h1 := hb.cell (p := ⟨w.heap.size, 1, none⟩) (by simp)
  have h2 := hb.cell (p := ⟨w.heap.size, 2, none⟩) (by simp)
  have h3 := hb.cell (p := ⟨w.heap.size, 3, none⟩) (by simp)
  have h4 := hb.cell (p := ⟨w.heap.size, 4, none⟩) (by simp)
  simp [go_sem] at h0 h1 h2 h3 h4
  refine ⟨h0, h1, h2, h3, h4, ((Below.refl _ _).alloc (Nat.le_refl _) _).trans (hb.mono (by simp)), ?_⟩
  have := hb.size
  simp at this
  omega
set_option maxHeartbeats 1000000 in
theorem inside_any (k : Int) (b : Bool) (x : Nat) (s : ByteArray) (i : Int) (w : World) (hT : Lib.Utf8Tabs 1 2 w) :
    Calls Tryz.prog 72 #[.agg #[.int .i64 k, .bool b, .float .f64 x, .string s, .int .i64 i]] w fun e w' => e = .returned (.tuple #[ifcV ⟨k, b, x, s, i⟩, .bool (goodV k b x s i)]) ∧ Below w.heap.size w w' := by
  have HS := hide (fun w => strays_any k b x s i w)
  have HF := hide (fun w (hT : Lib.Utf8Tabs 1 2 w) => fits_any s w hT)
  have HT := hide hT
  clear hT
  unfold goodV ifcV
  dsimp only
  generalize strV k b x s i = st at *
  generalize fitV s = ft at *
  cases st
  · by_cases e5 : k = 5
    · subst e5
      go_enter Tryz.func72, Tryz.ntmps72
      go_wp2_with fail
      refine (unhide HS _).mono ?_
      rintro e w1 ⟨rfl, hb⟩
      obtain ⟨c0, c1, c2, c3, c4, hB, hsz⟩ := five hb
      clear hb
      go_wp2_with fail
      refine (unhide HF _ (tabs_below (unhide HT) hB)).mono ?_
      rintro e w2 ⟨rfl, hb2⟩
      have d3 := hb2.cell (p := ⟨w.heap.size, 3, none⟩) hsz
      rw [c3] at d3
      cases ft
      · have d0 := hb2.cell (p := ⟨w.heap.size, 0, none⟩) hsz
        rw [c0] at d0
        go_wp2
        go_ret2
        exact ⟨by simp [inG, inI], hB.trans (hb2.mono hB.size)⟩
      · go_wp2
        go_ret2
        exact ⟨by simp [inG, inI, VV.ifc], hB.trans (hb2.mono hB.size)⟩
    · have hk : k = 1 ∨ k = 2 ∨ k = 3 ∨ k = 4 ∨ k = 6 ∨ k = 7 ∨ (k == 1) = false ∧ (k == 2) = false ∧ (k == 3) = false ∧ (k == 4) = false ∧ (k == 5) = false ∧ (k == 6) = false ∧ (k == 7) = false := by
        simp only [beq_eq_false_iff_ne]
        omega
      clear e5 HF HT
      rcases hk with rfl | rfl | rfl | rfl | rfl | rfl | ⟨e1, e2, e3, e4, e5, e6, e7⟩
      all_goals
        go_enter Tryz.func72, Tryz.ntmps72
        go_wp2_with fail
        refine (unhide HS _).mono ?_
        rintro e w1 ⟨rfl, hb⟩
        obtain ⟨c0, c1, c2, c3, c4, hB, hsz⟩ := five hb
        clear hb HS
        go_wp2
        all_goals
          go_ret2
          refine ⟨?_, hB⟩
          simp [inG, inI, VV.ifc, *]
          try omega
  · go_enter Tryz.func72, Tryz.ntmps72
    go_wp2_with fail
    refine (unhide HS _).mono ?_
    rintro e w1 ⟨rfl, hb⟩
    obtain ⟨c0, c1, c2, c3, c4, hB, hsz⟩ := five hb
    go_wp2
    go_ret2
    exact ⟨by simp [inG, inI], hB⟩
theorem empty_of {s : ByteArray} (h : s.toList.isEmpty = true) : s = ByteArray.empty := by
  cases s with
  | mk d =>
    rw [Lib.toList_data] at h
    have : d.toList = [] := by simpa using h
    have h2 : d = #[] := Array.toList_inj.1 (by simpa using this)
    subst h2; rfl
/-- What a well formed value can be. -/
theorem good_cases {k : Int} {b : Bool} {x : Nat} {s : ByteArray} {i : Int} (h : goodV k b x s i = true) :
    (k = 1 ∧ b = false ∧ x = 0 ∧ s = ByteArray.empty ∧ i = 0) ∨ (k = 2 ∧ b = false ∧ x = 0 ∧ s = ByteArray.empty ∧ i = 0) ∨ (k = 3 ∧ x = 0 ∧ s = ByteArray.empty ∧ i = 0) ∨ (k = 4 ∧ b = false ∧ s = ByteArray.empty ∧ i = 0) ∨
    (k = 5 ∧ b = false ∧ x = 0 ∧ i = 0 ∧ fitV s = true) ∨ (k = 6 ∧ b = false ∧ x = 0 ∧ s = ByteArray.empty ∧ 1 ≤ i ∧ i ≤ 65536) ∨ (k = 7 ∧ b = false ∧ x = 0 ∧ s = ByteArray.empty ∧ 1 ≤ i ∧ i ≤ 65536) := by
  have hs := @empty_of s
  unfold goodV inG strV at h
  generalize fitV s = ft at *
  generalize s.toList.isEmpty = q at *
  have hk : k = 1 ∨ k = 2 ∨ k = 3 ∨ k = 4 ∨ k = 5 ∨ k = 6 ∨ k = 7 := by
    simp at h
    omega
  rcases hk with rfl | rfl | rfl | rfl | rfl | rfl | rfl <;> cases b <;> cases q <;> simp at h hs <;> simp [h, hs]
theorem clone_any (s : ByteArray) (w : World) (h : s.size ≤ 1048576) : Calls Tryz.prog 142 #[.string s] w fun e w' => e = .returned (.string s) ∧ Below w.heap.size w w' := by
  have HC := hide (Tryz.stringslite_Clone s w (by omega))
  go_enter Tryz.func142, Tryz.ntmps142
  go_wp2_with fail
  refine (unhide HC).mono ?_
  rintro e w1 ⟨rfl, hb⟩
  go_wp2
  go_ret
  exact ⟨rfl, hb⟩
