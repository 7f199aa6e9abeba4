import Derived.Test.YtcflglloopgieaaGreatDoorQb
import Derived.Test.YtcflglloopgieaaGreatDoorQd
import Derived.Deep.QuietTactic
import Derived.BigQuiet
import Derived.Stop.Asserts
import Derived.ProofKit
import Derived.OpenShut
import Derived.Lib.SmallJoins

/-! Vd -/
namespace Go.Proofs.YtcflglloopgieaaGreatDoor
open Go.RowKit FM
attribute [local go_sem] bits_run run_store_float

theorem zero_order (x : Nat) (hx : x < 2 ^ 64) : (FloatKind.f64.format.order x 0 == some .eq) = (decide (x = 0) || decide (x = 9223372036854775808)) := by
  rw [eq_order x 0 hx (by decide)]
  unfold equalV same0V sameV
  have e1 : isN 0 = false := by decide +kernel
  have e2 : sz 0 = 0 := by decide +kernel
  rw [e1, e2]
  by_cases h : sz x = 0
  · rw [sz0_nan h]
    unfold sz at h
    have : x = 0 ∨ x = 9223372036854775808 := by omega
    rcases this with rfl | rfl <;> simp [sz]
  · have h1 : ¬ x = 0 := by rintro rfl; exact h e2
    have h2 : ¬ x = 9223372036854775808 := by rintro rfl; exact h (by decide +kernel)
    simp [h, h1, h2]
def mnV (x : Nat) : Bool := decide (x = 9223372036854775808)
theorem quo_pos (w : World) : (binOp .quo 29 (.float .f64 4607182418800017408) (.float .f64 0)).run Tryz.prog w = .ok (.float .f64 9218868437227405312) w := by kernel_rfl
theorem quo_neg (w : World) : (binOp .quo 29 (.float .f64 4607182418800017408) (.float .f64 9223372036854775808)).run Tryz.prog w = .ok (.float .f64 18442240474082181120) w := by kernel_rfl
theorem o_00 : (FloatKind.f64.format.order 0 0 == some .eq) = true := by decide +kernel
theorem o_m0 : (FloatKind.f64.format.order 9223372036854775808 0 == some .eq) = true := by decide +kernel
theorem o_i0 : (FloatKind.f64.format.order 9218868437227405312 0 == some .lt) = false := by decide +kernel
theorem o_n0 : (FloatKind.f64.format.order 18442240474082181120 0 == some .lt) = true := by decide +kernel
theorem minus_any (x : Nat) (hx : x < 2 ^ 64) (w : World) : Calls Tryz.prog 91 #[.float .f64 x] w fun e w' => e = .returned (.bool (mnV x)) ∧ w' = w := by
  have h0 := zero_order x hx
  by_cases h1 : x = 0
  · subst h1
    clear h0 hx
    have a1 := o_00
    have a2 := o_i0
    have a3 := quo_pos
    go_enter Tryz.func91, Tryz.ntmps91
    go_wp2
    go_ret
    exact ⟨rfl, rfl⟩
  · by_cases h2 : x = 9223372036854775808
    · subst h2
      clear h0 hx h1
      have a1 := o_m0
      have a2 := o_n0
      have a3 := quo_neg
      go_enter Tryz.func91, Tryz.ntmps91
      go_wp2
      go_ret
      exact ⟨rfl, rfl⟩
    · have h3 : (FloatKind.f64.format.order x 0 == some .eq) = false := by rw [h0]; simp [h1, h2]
      go_enter Tryz.func91, Tryz.ntmps91
      go_wp2
      go_ret
      exact ⟨by simp [mnV, h2], rfl⟩
set_option maxHeartbeats 2000000 in
theorem good_out (k : Int) (b : Bool) (x : Nat) (s : ByteArray) (i : Int) (hk : k < 1 ∨ 7 < k) (w : World) :
    Calls Tryz.prog 88 #[.agg #[.int .i64 k, .bool b, .float .f64 x, .string s, .int .i64 i]] w fun e w' => e = .returned (.bool (goodV k b x s i)) ∧ Below w.heap.size w w' := by
  have hg : goodV k b x s i = false := by
    unfold goodV inG
    have h1 : (k == 1) = false := by rw [beq_eq_false_iff_ne]; omega
    have h2 : (k == 2) = false := by rw [beq_eq_false_iff_ne]; omega
    have h3 : (k == 3) = false := by rw [beq_eq_false_iff_ne]; omega
    have h4 : (k == 4) = false := by rw [beq_eq_false_iff_ne]; omega
    have h5 : (k == 5) = false := by rw [beq_eq_false_iff_ne]; omega
    have h6 : (k == 6) = false := by rw [beq_eq_false_iff_ne]; omega
    have h7 : (k == 7) = false := by rw [beq_eq_false_iff_ne]; omega
    rw [h1, h2, h3, h4, h5, h6, h7]
    simp
  rw [hg]
  clear hg
  by_cases h1 : k < 1
  · clear hk
    go_enter Tryz.func88, Tryz.ntmps88
    go_wp2
    go_ret
    exact ⟨rfl, (Below.refl _ _).alloc (Nat.le_refl _) _⟩
  · have h7 : 7 < k := by omega
    clear hk
    go_enter Tryz.func88, Tryz.ntmps88
    go_wp2
    go_ret
    exact ⟨rfl, (Below.refl _ _).alloc (Nat.le_refl _) _⟩
set_option maxHeartbeats 2000000 in
theorem good_x (k : Int) (hk : k = 1 ∨ k = 2 ∨ k = 3 ∨ k = 6 ∨ k = 7) (b : Bool) (s : ByteArray) (i : Int) (w : World) :
    Calls Tryz.prog 88 #[.agg #[.int .i64 k, .bool b, .float .f64 0, .string s, .int .i64 i]] w fun e w' => e = .returned (.bool (goodV k b 0 s i)) ∧ Below w.heap.size w w' := by
  have a1 := o_00
  have a2 := o_i0
  have a3 := quo_pos
  unfold goodV
  generalize fitV s = ft
  rcases hk with rfl | rfl | rfl | rfl | rfl
  all_goals
    cases b
    all_goals
      go_enter Tryz.func88, Tryz.ntmps88
      go_wp2
      all_goals
        go_ret
        refine ⟨?_, (Below.refl _ _).alloc (Nat.le_refl _) _⟩
        simp [inG, strV, *]
        try omega
end Go.Proofs.YtcflglloopgieaaGreatDoor

/-! Db -/
namespace Go.Proofs.YtcflglloopgieaaGreatDoor
open Go Go.Proofs Go.RowKit FM
set_option linter.unusedSimpArgs false
set_option linter.unusedVariables false
theorem run_equalIn_float {P : Program} (d : Nat) (t : TypeId) (a b : Nat) (w : World) (h : P.underlying t = some (.float .f64)) : (Op.equalIn (d + 1) t (.float .f64 a) (.float .f64 b)).run P w = .ok (FloatKind.f64.format.order a b == some .eq) w := by
  simp [Op.equalIn, run_underlying h]
  rfl
section
attribute [local go_sem] bits_run
theorem signbit_any (x : Nat) (hx : x < 2 ^ 64) (w : World) : Calls Tryz.prog 110 #[.float .f64 x] w fun e w' => e = .returned (.bool (decide (2 ^ 63 ≤ x))) ∧ w' = w := by
  have h : (wrap64 (x : Int) < 0) = (2 ^ 63 ≤ x) := by
    unfold wrap64
    rw [eq_iff_iff]
    omega
  go_enter Tryz.func110, Tryz.ntmps110
  go_wp2
  go_ret
  exact ⟨by simp, rfl⟩
end
def thV (v : VV) : Bool := !(v.k == 0 && !v.b && v.x == 0 && v.s.toList.isEmpty && v.i == 0)
attribute [local go_sem] run_equalIn_float
set_option maxHeartbeats 1000000 in
set_option maxRecDepth 100000 in
theorem there_any (v : VV) (hx : v.x < 2 ^ 64) (w : World) : Calls Tryz.prog 104 #[v.agg] w fun e w' => e = .returned (.bool (thV v)) ∧ Below w.heap.size w w' := by
  have hz := zero_order v.x hx
  have HS := hide (signbit_any v.x hx)
  obtain ⟨k, b, x, s, i⟩ := v
  unfold VV.agg thV
  dsimp only at *
  by_cases hk : k = 0
  · subst hk
    cases b
    · generalize hq : (FloatKind.f64.format.order x 0 == some .eq) = q at *
      cases q
      · have hx0 : (x == 0) = false := by
          simp at hz
          simp [hz]
        rw [hx0]
        have hq2 : ¬ FloatKind.f64.format.order x 0 = some .eq := by simpa using hq
        clear hz hq HS hx hx0
        go_enter Tryz.func104, Tryz.ntmps104
        go_wp2
        go_ret
        exact ⟨rfl, (Below.refl w.heap.size w).alloc (Nat.le_refl _) _⟩
      · have hx0 : x = 0 ∨ x = 2 ^ 63 := by
          simp at hz
          omega
        have hq2 : FloatKind.f64.format.order x 0 = some .eq := by simpa using hq
        by_cases hs : s.toList.isEmpty = true
        · have hs2 := empty_of hs
          subst hs2
          by_cases hi : i = 0
          · subst hi
            have hr : (!((0 : Int) == 0 && !false && x == 0 && ByteArray.empty.toList.isEmpty && (0 : Int) == 0)) = decide (2 ^ 63 ≤ x) := by
              rw [hs]
              rcases hx0 with rfl | rfl <;> rfl
            rw [hr]
            generalize decide (2 ^ 63 ≤ x) = r at *
            clear hz hq hx hx0 hr hs
            go_enter Tryz.func104, Tryz.ntmps104
            go_wp2_with fail
            refine (unhide HS _).mono ?_
            rintro e w1 ⟨rfl, rfl⟩
            go_wp2
            go_ret
            exact ⟨rfl, (Below.refl w.heap.size w).alloc (Nat.le_refl _) _⟩
          · have hi2 : (i == 0) = false := by simp [hi]
            rw [hi2, Bool.and_false]
            clear hz hq hx hx0 hs HS
            go_enter Tryz.func104, Tryz.ntmps104
            go_wp2
            go_ret
            exact ⟨rfl, (Below.refl w.heap.size w).alloc (Nat.le_refl _) _⟩
        · have hs1 : s.toList.isEmpty = false := by simpa using hs
          have hs2 : ¬ s.toList = [] := by simpa using hs1
          rw [hs1, Bool.and_false, Bool.false_and]
          clear hz hq hx hx0 hs HS hs1
          go_enter Tryz.func104, Tryz.ntmps104
          go_wp2
          go_ret
          exact ⟨rfl, (Below.refl w.heap.size w).alloc (Nat.le_refl _) _⟩
    · clear hz HS hx
      go_enter Tryz.func104, Tryz.ntmps104
      go_wp2
      go_ret
      exact ⟨rfl, (Below.refl w.heap.size w).alloc (Nat.le_refl _) _⟩
  · clear hz HS hx
    have hk2 : (k == 0) = false := by simp [hk]
    rw [hk2]
    go_enter Tryz.func104, Tryz.ntmps104
    go_wp2
    go_ret
    exact ⟨rfl, (Below.refl w.heap.size w).alloc (Nat.le_refl _) _⟩
end Go.Proofs.YtcflglloopgieaaGreatDoor

/-! Dc -/
namespace Go.Proofs.YtcflglloopgieaaGreatDoor
open Go Go.Proofs Go.RowKit FM
set_option linter.unusedSimpArgs false
set_option linter.unusedVariables false
def shapeV (d : DD) : Int := if (thV d.v || d.w != 0) && (thV d.g || thV d.s) then 0 else if thV d.v || d.w != 0 then 2 else if thV d.g || thV d.s then 3 else 1
def triV (t : Int) : Bool := t == 0 || t == 1 || t == 2
theorem said_any (t : Int) (w : World) : Calls Tryz.prog 97 #[.int .i64 t] w fun e w' => e = .returned (.bool (t != 0)) ∧ w' = w := by
  go_enter Tryz.func97, Tryz.ntmps97
  go_wp2
  go_ret
  exact ⟨rfl, rfl⟩
theorem oneOfThree_any (t : Int) (w : World) : Calls Tryz.prog 117 #[.int .i64 t] w fun e w' => e = .returned (.bool (triV t)) ∧ w' = w := by
  unfold triV
  by_cases h0 : t = 0
  · subst h0
    go_enter Tryz.func117, Tryz.ntmps117
    go_wp2
    go_ret
    exact ⟨rfl, rfl⟩
  · have h0' : (t == 0) = false := by simp [h0]
    by_cases h1 : t = 1
    · subst h1
      go_enter Tryz.func117, Tryz.ntmps117
      go_wp2
      go_ret
      exact ⟨rfl, rfl⟩
    · have h1' : (t == 1) = false := by simp [h1]
      rw [h0', h1']
      go_enter Tryz.func117, Tryz.ntmps117
      go_wp2
      go_ret
      exact ⟨rfl, rfl⟩
theorem refTri_any (t : Int) (w : World) : Calls Tryz.prog 90 #[.int .i64 t] w fun e w' => e = .returned (.bool (triV t)) ∧ w' = w := by
  unfold triV
  by_cases h0 : t = 0
  · subst h0
    go_enter Tryz.func90, Tryz.ntmps90
    go_wp2
    go_ret
    exact ⟨rfl, rfl⟩
  · have h0' : (t == 0) = false := by simp [h0]
    by_cases h1 : t = 1
    · subst h1
      go_enter Tryz.func90, Tryz.ntmps90
      go_wp2
      go_ret
      exact ⟨rfl, rfl⟩
    · have h1' : (t == 1) = false := by simp [h1]
      rw [h0', h1']
      go_enter Tryz.func90, Tryz.ntmps90
      go_wp2
      go_ret
      exact ⟨rfl, rfl⟩
/-- The floats of a descriptor are floats. -/
def FD (d : DD) : Prop := d.v.x < 2 ^ 64 ∧ d.g.x < 2 ^ 64 ∧ d.s.x < 2 ^ 64
theorem refThere_any (v : VV) (w : World) : Calls Tryz.prog 28 #[v.agg] w fun e w' => e = .returned (.bool (v.k != 0)) ∧ Below w.heap.size w w' := by
  obtain ⟨k, b, x, s, i⟩ := v
  unfold VV.agg
  dsimp only
  go_enter Tryz.func28, Tryz.ntmps28
  go_wp2
  go_ret
  exact ⟨rfl, (Below.refl w.heap.size w).alloc (Nat.le_refl _) _⟩

theorem o_ig : (FloatKind.f64.format.order 9218868437227405312 0 == some .gt) = true := by decide +kernel
theorem o_ng : (FloatKind.f64.format.order 18442240474082181120 0 == some .gt) = false := by decide +kernel
section
attribute [local go_sem] quo_pos quo_neg
set_option maxHeartbeats 1000000 in
set_option maxRecDepth 100000 in
theorem refNone_any (v : VV) (hx : v.x < 2 ^ 64) (w : World) : Calls Tryz.prog 77 #[v.agg] w fun e w' => e = .returned (.bool (!thV v)) ∧ Below w.heap.size w w' := by
  have hz := zero_order v.x hx
  have h1 := o_00
  have h2 := o_m0
  have h3 := o_ig
  have h4 := o_ng
  obtain ⟨k, b, x, s, i⟩ := v
  unfold VV.agg thV
  dsimp only at *
  by_cases hk : k = 0
  · subst hk
    cases b
    · generalize hq : (FloatKind.f64.format.order x 0 == some .eq) = q at *
      cases q
      · have hx0 : (x == 0) = false := by
          simp at hz
          simp [hz]
        rw [hx0]
        have hq2 : ¬ FloatKind.f64.format.order x 0 = some .eq := by simpa using hq
        clear hz hq hx hx0 h1 h2 h3 h4
        go_enter Tryz.func77, Tryz.ntmps77
        go_wp2
        go_ret
        exact ⟨rfl, (Below.refl w.heap.size w).alloc (Nat.le_refl _) _⟩
      · have hx0 : x = 0 ∨ x = 9223372036854775808 := by
          simp at hz
          omega
        clear hz
        rcases hx0 with rfl | rfl
        · by_cases hs : s.toList.isEmpty = true
          · have hs2 := empty_of hs
            subst hs2
            by_cases hi : i = 0
            · subst hi
              rw [hs]
              clear hx hs
              go_enter Tryz.func77, Tryz.ntmps77
              go_wp2
              go_ret
              exact ⟨rfl, (Below.refl w.heap.size w).alloc (Nat.le_refl _) _⟩
            · have hi2 : (i == 0) = false := by simp [hi]
              rw [hi2, Bool.and_false]
              clear hx hs
              go_enter Tryz.func77, Tryz.ntmps77
              go_wp2
              go_ret
              exact ⟨rfl, (Below.refl w.heap.size w).alloc (Nat.le_refl _) _⟩
          · have hs1 : s.toList.isEmpty = false := by simpa using hs
            have hs2 : ¬ s.toList = [] := by simpa using hs1
            rw [hs1, Bool.and_false, Bool.false_and]
            clear hx hs hs1
            go_enter Tryz.func77, Tryz.ntmps77
            go_wp2
            go_ret
            exact ⟨rfl, (Below.refl w.heap.size w).alloc (Nat.le_refl _) _⟩
        · clear hx
          go_enter Tryz.func77, Tryz.ntmps77
          go_wp2
          go_ret
          exact ⟨rfl, (Below.refl w.heap.size w).alloc (Nat.le_refl _) _⟩
    · clear hz hx h1 h2 h3 h4
      go_enter Tryz.func77, Tryz.ntmps77
      go_wp2
      go_ret
      exact ⟨rfl, (Below.refl w.heap.size w).alloc (Nat.le_refl _) _⟩
  · clear hz hx h1 h2 h3 h4
    have hk2 : (k == 0) = false := by simp [hk]
    rw [hk2]
    go_enter Tryz.func77, Tryz.ntmps77
    go_wp2
    go_ret
    exact ⟨rfl, (Below.refl w.heap.size w).alloc (Nat.le_refl _) _⟩
end
end Go.Proofs.YtcflglloopgieaaGreatDoor

/-! Ve -/
namespace Go.Proofs.YtcflglloopgieaaGreatDoor
open Go.RowKit FM
attribute [local go_sem] bits_run run_store_float
set_option maxHeartbeats 2000000 in
theorem good_4 (b : Bool) (x : Nat) (s : ByteArray) (i : Int) (w : World) :
    Calls Tryz.prog 88 #[.agg #[.int .i64 4, .bool b, .float .f64 x, .string s, .int .i64 i]] w fun e w' => e = .returned (.bool (goodV 4 b x s i)) ∧ Below w.heap.size w w' := by
  unfold goodV
  generalize fitV s = ft
  cases b
  all_goals
    go_enter Tryz.func88, Tryz.ntmps88
    go_wp2
    all_goals
      go_ret
      refine ⟨?_, (Below.refl _ _).alloc (Nat.le_refl _) _⟩
      simp [inG, strV, *]
theorem strV_x {k : Int} {b : Bool} {x : Nat} {s : ByteArray} {i : Int} (hk : k ≠ 4) (hx : x ≠ 0) : goodV k b x s i = false := by
  unfold goodV inG strV
  simp [hk, hx]
set_option maxHeartbeats 2000000 in
theorem good_m (k : Int) (hk : k = 1 ∨ k = 2 ∨ k = 3 ∨ k = 5 ∨ k = 6 ∨ k = 7) (b : Bool) (s : ByteArray) (i : Int) (w : World) :
    Calls Tryz.prog 88 #[.agg #[.int .i64 k, .bool b, .float .f64 9223372036854775808, .string s, .int .i64 i]] w fun e w' => e = .returned (.bool (goodV k b 9223372036854775808 s i)) ∧ Below w.heap.size w w' := by
  rw [strV_x (by omega) (by decide)]
  have a1 := o_m0
  have a2 := o_n0
  have a3 := quo_neg
  rcases hk with rfl | rfl | rfl | rfl | rfl | rfl
  all_goals
    cases b
    all_goals
      go_enter Tryz.func88, Tryz.ntmps88
      go_wp2
      go_ret
      exact ⟨rfl, (Below.refl _ _).alloc (Nat.le_refl _) _⟩
set_option maxHeartbeats 2000000 in
theorem good_y (k : Int) (hk : k = 1 ∨ k = 2 ∨ k = 3 ∨ k = 5 ∨ k = 6 ∨ k = 7) (b : Bool) (x : Nat) (hx : (FloatKind.f64.format.order x 0 == some .eq) = false) (h0 : x ≠ 0) (s : ByteArray) (i : Int) (w : World) :
    Calls Tryz.prog 88 #[.agg #[.int .i64 k, .bool b, .float .f64 x, .string s, .int .i64 i]] w fun e w' => e = .returned (.bool (goodV k b x s i)) ∧ Below w.heap.size w w' := by
  rw [strV_x (by omega) h0]
  clear h0
  have hx' : (FloatKind.f64.format.order x 0 != some .eq) = true := by rw [bne, hx]; rfl
  have hx2 : ¬ FloatKind.f64.format.order x 0 = some .eq := by simpa using hx
  rcases hk with rfl | rfl | rfl | rfl | rfl | rfl
  all_goals
    cases b
    all_goals
      go_enter Tryz.func88, Tryz.ntmps88
      go_wp2
      go_ret
      exact ⟨rfl, (Below.refl _ _).alloc (Nat.le_refl _) _⟩
set_option maxHeartbeats 2000000 in
theorem good_5 (b : Bool) (s : ByteArray) (i : Int) (w : World) :
    Calls Tryz.prog 88 #[.agg #[.int .i64 5, .bool b, .float .f64 0, .string s, .int .i64 i]] w fun e w' => e = .returned (.bool (goodV 5 b 0 s i)) ∧ Below w.heap.size w w' := by
  have a1 := o_00
  have a2 := o_i0
  have a3 := quo_pos
  cases b
  · by_cases hi : i = 0
    · subst hi
      by_cases hs : s.size ≤ 1048576
      · have HV := hide (fun w => refValid_any s (by omega) w)
        have hs' : (s.size : Int) ≤ 1048576 := by omega
        have hg : goodV 5 false 0 s 0 = vS s := by
          unfold goodV inG strV fitV vS
          simp [hs]
        rw [hg]
        clear hg
        go_enter Tryz.func88, Tryz.ntmps88
        go_wp2_with fail
        refine (minus_any 0 (by decide) _).mono ?_
        rintro e w1 ⟨rfl, rfl⟩
        have hm : mnV 0 = false := by decide
        rw [hm]
        go_wp2_with fail
        refine (unhide HV _).mono ?_
        rintro e w1 ⟨rfl, hb⟩
        go_wp2
        go_ret
        exact ⟨rfl, ((Below.refl _ _).alloc (Nat.le_refl _) _).trans (hb.mono (by simp))⟩
      · have hs' : ¬ (s.size : Int) ≤ 1048576 := by omega
        have hg : goodV 5 false 0 s 0 = false := by
          unfold goodV inG strV fitV
          simp [hs]
        rw [hg]
        clear hg
        go_enter Tryz.func88, Tryz.ntmps88
        go_wp2
        go_ret
        exact ⟨rfl, (Below.refl _ _).alloc (Nat.le_refl _) _⟩
    · have hg : goodV 5 false 0 s i = false := by
        unfold goodV inG strV
        simp [hi]
      rw [hg]
      clear hg
      go_enter Tryz.func88, Tryz.ntmps88
      go_wp2
      go_ret
      exact ⟨rfl, (Below.refl _ _).alloc (Nat.le_refl _) _⟩
  · have hg : goodV 5 true 0 s i = false := by
      unfold goodV inG strV
      simp
    rw [hg]
    clear hg
    go_enter Tryz.func88, Tryz.ntmps88
    go_wp2
    go_ret
    exact ⟨rfl, (Below.refl _ _).alloc (Nat.le_refl _) _⟩
/-- The reference's Good, of any fields. -/
theorem refGood_any (v : VV) (hx : v.x < 2 ^ 64) (w : World) : Calls Tryz.prog 88 #[v.agg] w fun e w' => e = .returned (.bool v.good) ∧ Below w.heap.size w w' := by
  obtain ⟨k, b, x, s, i⟩ := v
  have h0 := zero_order x hx
  unfold VV.agg VV.good
  dsimp only at *
  by_cases hk : k < 1 ∨ 7 < k
  · exact good_out k b x s i hk w
  · have hk' : k = 4 ∨ k = 5 ∨ k = 1 ∨ k = 2 ∨ k = 3 ∨ k = 6 ∨ k = 7 := by omega
    rcases hk' with rfl | hk'
    · exact good_4 b x s i w
    · by_cases h1 : x = 0
      · subst h1
        rcases hk' with rfl | hk'
        · exact good_5 b s i w
        · exact good_x k hk' b s i w
      · by_cases h2 : x = 9223372036854775808
        · subst h2
          exact good_m k (by omega) b s i w
        · exact good_y k (by omega) b x (by rw [h0]; simp [h1, h2]) h1 s i w
end Go.Proofs.YtcflglloopgieaaGreatDoor

/-! Vf -/
namespace Go.Proofs.YtcflglloopgieaaGreatDoor
open Go.RowKit FM
attribute [local go_sem] bits_run run_store_float
def VV.zero : VV := ⟨0, false, 0, ByteArray.empty, 0⟩
def VV.made (v : VV) : VV := if v.good then v else VV.zero
/-- Five cells of a block that may be written. -/
structure Five (w : World) (B : Nat) (c0 c1 c2 c3 c4 : Value) : Prop where
  h0 : w.cell? ⟨B, 0, none⟩ = some c0
  h1 : w.cell? ⟨B, 1, none⟩ = some c1
  h2 : w.cell? ⟨B, 2, none⟩ = some c2
  h3 : w.cell? ⟨B, 3, none⟩ = some c3
  h4 : w.cell? ⟨B, 4, none⟩ = some c4
  fz : ∀ j, w.frozen? ⟨B, j, none⟩ = false
  lt : B < w.heap.size
theorem five_new (w : World) (B : Nat) (c0 c1 c2 c3 c4 : Value) (t : TypeId) (hB : B = w.heap.size) : Five (w.alloc (Obj.cells #[c0, c1, c2, c3, c4] t)) B c0 c1 c2 c3 c4 := by
  subst hB
  refine ⟨?_, ?_, ?_, ?_, ?_, fun j => ?_, ?_⟩ <;> simp [go_sem]
theorem five_alloc {w : World} {B : Nat} {c0 c1 c2 c3 c4 : Value} (h : Five w B c0 c1 c2 c3 c4) (o : Obj) : Five (w.alloc o) B c0 c1 c2 c3 c4 := by
  have hb : Below w.heap.size w (w.alloc o) := (Below.refl _ _).alloc (Nat.le_refl _) _
  exact ⟨(hb.cell h.lt).trans h.h0, (hb.cell h.lt).trans h.h1, (hb.cell h.lt).trans h.h2, (hb.cell h.lt).trans h.h3, (hb.cell h.lt).trans h.h4, fun j => (hb.frozen h.lt).trans (h.fz j), Nat.lt_of_lt_of_le h.lt hb.size⟩
theorem five_below {w w' : World} {B : Nat} {c0 c1 c2 c3 c4 : Value} (h : Five w B c0 c1 c2 c3 c4) (hb : Below w.heap.size w w') : Five w' B c0 c1 c2 c3 c4 :=
  ⟨(hb.cell h.lt).trans h.h0, (hb.cell h.lt).trans h.h1, (hb.cell h.lt).trans h.h2, (hb.cell h.lt).trans h.h3, (hb.cell h.lt).trans h.h4, fun j => (hb.frozen h.lt).trans (h.fz j), Nat.lt_of_lt_of_le h.lt hb.size⟩
theorem set5 {w W : World} {B : Nat} {v0 v1 v2 v3 v4 : Value} (h : Below w.heap.size w W) (hB : w.heap.size ≤ B) :
    Below w.heap.size w (((((W.setCell ⟨B, 0, none⟩ v0).setCell ⟨B, 1, none⟩ v1).setCell ⟨B, 2, none⟩ v2).setCell ⟨B, 3, none⟩ v3).setCell ⟨B, 4, none⟩ v4) :=
  ((((h.setCell hB _).setCell hB _).setCell hB _).setCell hB _).setCell hB _

def errB (b : Bool) : Int := if b then 0 else 5
theorem check_any (v : VV) (w : World) (hT : Lib.Utf8Tabs 1 2 w) : Calls Tryz.prog 115 #[v.agg] w fun e w' => e = .returned (.int .i64 (errB v.good)) ∧ Below w.heap.size w w' := by
  have HI := hide (inside_any v.k v.b v.x v.s v.i)
  have HT := hide hT
  clear hT
  unfold VV.good
  generalize goodV v.k v.b v.x v.s v.i = g at *
  generalize ifcV ⟨v.k, v.b, v.x, v.s, v.i⟩ = f at *
  obtain ⟨k, b, x, s, i⟩ := v
  unfold VV.agg at *
  dsimp only at *
  cases g
  all_goals
    go_enter Tryz.func115, Tryz.ntmps115
    go_wp2_with fail
    refine (unhide HI _ (tabs_below (unhide HT) ((Below.refl _ _).alloc (Nat.le_refl _) _))).mono ?_
    rintro e w1 ⟨rfl, hb⟩
    go_wp2
    go_ret
    exact ⟨rfl, ((Below.refl _ _).alloc (Nat.le_refl _) _).trans (hb.mono (by simp))⟩
end Go.Proofs.YtcflglloopgieaaGreatDoor

/-! Vg -/
namespace Go.Proofs.YtcflglloopgieaaGreatDoor
open Go.RowKit FM
attribute [local go_sem] bits_run run_store_float
def eqB (a b : VV) : Bool := (decide (a.x = b.x) || isN a.x && isN b.x) && a.k == b.k && a.b == b.b && decide (a.s.toList = b.s.toList) && a.i == b.i
end Go.Proofs.YtcflglloopgieaaGreatDoor

/-! Vi -/
namespace Go.Proofs.YtcflglloopgieaaGreatDoor
open Go.RowKit FM
theorem q56 (w : World) : (binOp .eql 127 (.iface 141 (.agg #[])) (.iface 141 (.agg #[]))).run Tryz.prog w = .ok (.bool true) w := by kernel_rfl
theorem q57 (w : World) : (binOp .eql 127 (.iface 142 (.agg #[])) (.iface 142 (.agg #[]))).run Tryz.prog w = .ok (.bool true) w := by kernel_rfl
theorem q58 (a b : Bool) (w : World) : (binOp .eql 127 (.iface 132 (.bool a)) (.iface 132 (.bool b))).run Tryz.prog w = .ok (.bool (a == b)) w := by kernel_rfl
theorem q79 (a b : ByteArray) (w : World) : (binOp .eql 127 (.iface 133 (.string a)) (.iface 133 (.string b))).run Tryz.prog w = .ok (.bool (a.toList == b.toList)) w := by
  rw [← beq_toListBytes]; kernel_rfl
theorem q81 (a b : Int) (w : World) : (binOp .eql 127 (.iface 134 (.int .i64 a)) (.iface 134 (.int .i64 b))).run Tryz.prog w = .ok (.bool (a == b)) w := by kernel_rfl
theorem q82 (a b : Int) (w : World) : (binOp .eql 127 (.iface 135 (.int .i64 a)) (.iface 135 (.int .i64 b))).run Tryz.prog w = .ok (.bool (a == b)) w := by kernel_rfl
theorem qne (t u : TypeId) (a b : Value) (w : World) (h : t ≠ u) : (binOp .eql 127 (.iface t a) (.iface u b)).run Tryz.prog w = .ok (.bool false) w := run_eql_iface_types t u a b Tryz.underlying127 h w
attribute [local go_sem] bits_run run_store_float ta56 ta57 ta58 ta59 ta79 ta81 ta82 q56 q57 q58 q79 q81 q82
/-- The type behind a value of a kind. -/
def tyK (k : Int) : TypeId := if k = 1 then 141 else if k = 2 then 142 else if k = 3 then 132 else if k = 4 then 121 else if k = 5 then 133 else if k = 6 then 134 else 135
def inK (v : VV) : Value := if v.k = 1 then .agg #[] else if v.k = 2 then .agg #[] else if v.k = 3 then .bool v.b else if v.k = 4 then .float .f64 v.x else if v.k = 5 then .string v.s else .int .i64 v.i
theorem ifc_eq (v : VV) : v.ifc = .iface (tyK v.k) (inK v) := by
  unfold VV.ifc tyK inK
  repeat' split
  all_goals rfl
def alikeV (cmp : Nat → Nat → Bool) (a b : VV) : Bool := a.k == b.k && (if a.k = 4 then cmp a.x b.x else a.b == b.b && a.s.toList == b.s.toList && a.i == b.i)
set_option maxRecDepth 100000 in
theorem alike_num_same (x y : Nat) (w : World) :
    Calls Tryz.prog 101 #[.iface 121 (.float .f64 x), .iface 121 (.float .f64 y), .func (.func 93) #[] #[]] w fun e w' => e = .returned (.bool (sameV x y)) ∧ Below w.heap.size w w' := by
  go_enter Tryz.func101, Tryz.ntmps101
  go_wp2_with fail
  refine (same_any x y _).mono ?_
  rintro e w' ⟨rfl, rfl⟩
  go_wp2
  go_ret
  exact ⟨rfl, Below.refl _ _⟩
set_option maxRecDepth 100000 in
theorem alike_none (t : TypeId) (x : Nat) (b g : Value) (ht : (t = 121) = False) (w : World) :
    Calls Tryz.prog 101 #[.iface 121 (.float .f64 x), .iface t b, g] w fun e w' => e = .returned (.bool false) ∧ Below w.heap.size w w' := by
  go_enter Tryz.func101, Tryz.ntmps101
  go_wp2
  go_ret
  exact ⟨rfl, Below.refl _ _⟩
theorem alike_same (t u : TypeId) (a b : Value) (r : Bool) (g : Value) (ht : (t = 121) = False) (hr : ∀ w, (binOp .eql 127 (.iface t a) (.iface u b)).run Tryz.prog w = .ok (.bool r) w) (w : World) :
    Calls Tryz.prog 101 #[.iface t a, .iface u b, g] w fun e w' => e = .returned (.bool r) ∧ Below w.heap.size w w' := by
  go_enter Tryz.func101, Tryz.ntmps101
  go_wp2
  go_ret
  exact ⟨rfl, Below.refl _ _⟩
theorem qq {r r' : Bool} {w : World} {c : Sem Value} (h : c.run Tryz.prog w = .ok (.bool r) w) (e : r = r') : c.run Tryz.prog w = .ok (.bool r') w := by rw [h, e]
theorem eql_good (cmp : Nat → Nat → Bool) (a b : VV) (ha : a.good = true) (hb : b.good = true) (h4 : a.k ≠ 4) (w : World) : (binOp .eql 127 a.ifc b.ifc).run Tryz.prog w = .ok (.bool (alikeV cmp a b)) w := by
  obtain ⟨k, c, x, s, i⟩ := a
  obtain ⟨k', c', x', s', i'⟩ := b
  by_cases hk : k = k'
  · subst hk
    rcases good_cases ha with ⟨rfl, rfl, rfl, rfl, rfl⟩ | ⟨rfl, rfl, rfl, rfl, rfl⟩ | ⟨rfl, rfl, rfl, rfl⟩ | ⟨rfl, rfl, rfl, rfl⟩ | ⟨rfl, rfl, rfl, rfl, -⟩ | ⟨rfl, rfl, rfl, rfl, -, -⟩ | ⟨rfl, rfl, rfl, rfl, -, -⟩
    · rcases good_cases hb with ⟨-, rfl, rfl, rfl, rfl⟩ | ⟨h, -⟩ | ⟨h, -⟩ | ⟨h, -⟩ | ⟨h, -⟩ | ⟨h, -⟩ | ⟨h, -⟩ <;> first | (exfalso; dsimp only at h; omega) | exact qq (q56 w) (by simp [alikeV])
    · rcases good_cases hb with ⟨h, -⟩ | ⟨-, rfl, rfl, rfl, rfl⟩ | ⟨h, -⟩ | ⟨h, -⟩ | ⟨h, -⟩ | ⟨h, -⟩ | ⟨h, -⟩ <;> first | (exfalso; dsimp only at h; omega) | exact qq (q57 w) (by simp [alikeV])
    · rcases good_cases hb with ⟨h, -⟩ | ⟨h, -⟩ | ⟨-, rfl, rfl, rfl⟩ | ⟨h, -⟩ | ⟨h, -⟩ | ⟨h, -⟩ | ⟨h, -⟩ <;> first | (exfalso; dsimp only at h; omega) | exact qq (q58 c c' w) (by simp [alikeV])
    · exact absurd rfl h4
    · rcases good_cases hb with ⟨h, -⟩ | ⟨h, -⟩ | ⟨h, -⟩ | ⟨h, -⟩ | ⟨-, rfl, rfl, rfl, -⟩ | ⟨h, -⟩ | ⟨h, -⟩ <;> first | (exfalso; dsimp only at h; omega) | exact qq (q79 s s' w) (by simp [alikeV])
    · rcases good_cases hb with ⟨h, -⟩ | ⟨h, -⟩ | ⟨h, -⟩ | ⟨h, -⟩ | ⟨h, -⟩ | ⟨-, rfl, rfl, rfl, -, -⟩ | ⟨h, -⟩ <;> first | (exfalso; dsimp only at h; omega) | exact qq (q81 i i' w) (by simp [alikeV])
    · rcases good_cases hb with ⟨h, -⟩ | ⟨h, -⟩ | ⟨h, -⟩ | ⟨h, -⟩ | ⟨h, -⟩ | ⟨h, -⟩ | ⟨-, rfl, rfl, rfl, -, -⟩ <;> first | (exfalso; dsimp only at h; omega) | exact qq (q82 i i' w) (by simp [alikeV])
  · rw [ifc_eq, ifc_eq]
    refine qq (qne _ _ _ _ w ?_) ?_
    · have e1 : k = 1 ∨ k = 2 ∨ k = 3 ∨ k = 4 ∨ k = 5 ∨ k = 6 ∨ k = 7 := by
        rcases good_cases ha with ⟨h, -⟩ | ⟨h, -⟩ | ⟨h, -⟩ | ⟨h, -⟩ | ⟨h, -⟩ | ⟨h, -⟩ | ⟨h, -⟩ <;> (dsimp only at h; omega)
      have e2 : k' = 1 ∨ k' = 2 ∨ k' = 3 ∨ k' = 4 ∨ k' = 5 ∨ k' = 6 ∨ k' = 7 := by
        rcases good_cases hb with ⟨h, -⟩ | ⟨h, -⟩ | ⟨h, -⟩ | ⟨h, -⟩ | ⟨h, -⟩ | ⟨h, -⟩ | ⟨h, -⟩ <;> (dsimp only at h; omega)
      dsimp only
      rcases e1 with rfl | rfl | rfl | rfl | rfl | rfl | rfl <;> rcases e2 with rfl | rfl | rfl | rfl | rfl | rfl | rfl <;> first | exact absurd rfl hk | decide
    · unfold alikeV
      have : (k == k') = false := by rw [beq_eq_false_iff_ne]; exact hk
      simp [this]
theorem tyK_ne {k : Int} (h : k ≠ 4) : (tyK k = 121) = False := by
  unfold tyK
  repeat' split
  all_goals first | contradiction | simp
/-- What alike answers, of two values that are well formed. -/
theorem alike_good (f : FuncId) (cmp : Nat → Nat → Bool) (a b : VV) (ha : a.good = true) (hb : b.good = true)
    (hn : ∀ w, Calls Tryz.prog 101 #[.iface 121 (.float .f64 a.x), .iface 121 (.float .f64 b.x), .func (.func f) #[] #[]] w fun e w' => e = .returned (.bool (cmp a.x b.x)) ∧ Below w.heap.size w w') (w : World) :
    Calls Tryz.prog 101 #[a.ifc, b.ifc, .func (.func f) #[] #[]] w fun e w' => e = .returned (.bool (alikeV cmp a b)) ∧ Below w.heap.size w w' := by
  by_cases h4 : a.k = 4
  · by_cases k4 : b.k = 4
    · have e1 : a.ifc = .iface 121 (.float .f64 a.x) := by unfold VV.ifc; rw [h4]; rfl
      have e2 : b.ifc = .iface 121 (.float .f64 b.x) := by unfold VV.ifc; rw [k4]; rfl
      have e3 : alikeV cmp a b = cmp a.x b.x := by unfold alikeV; simp [h4, k4]
      rw [e1, e2, e3]
      exact hn w
    · have e1 : a.ifc = .iface 121 (.float .f64 a.x) := by unfold VV.ifc; rw [h4]; rfl
      have e3 : alikeV cmp a b = false := by
        unfold alikeV
        have : (a.k == b.k) = false := by rw [beq_eq_false_iff_ne, h4]; exact fun e => k4 e.symm
        rw [this]; rfl
      rw [e1, ifc_eq b, e3]
      exact alike_none _ _ _ _ (tyK_ne k4) w
  · have he := eql_good cmp a b ha hb h4
    rw [ifc_eq a, ifc_eq b] at *
    exact alike_same _ _ _ _ _ _ (tyK_ne h4) he w
theorem zero_sz (x : Nat) (hx : x < 2 ^ 64) : (FloatKind.f64.format.order x 0 == some .eq) = decide (sz x = 0) := by
  rw [zero_order x hx, Bool.eq_iff_iff]
  unfold sz
  simp
  omega
end Go.Proofs.YtcflglloopgieaaGreatDoor

/-! Vj -/
namespace Go.Proofs.YtcflglloopgieaaGreatDoor
open Go.RowKit FM
attribute [local go_sem] bits_run run_store_float
def okE (g : Bool) (r : Bool) : Value := .tuple #[.bool (g && r), .int .i64 (errB g)]
/-- hold, for each of the three ways: what alike answers, where both are well formed. -/
theorem hold_any (f : FuncId) (cmp : Nat → Nat → Bool) (a b : VV)
    (hn : ∀ w, Calls Tryz.prog 101 #[.iface 121 (.float .f64 a.x), .iface 121 (.float .f64 b.x), .func (.func f) #[] #[]] w fun e w' => e = .returned (.bool (cmp a.x b.x)) ∧ Below w.heap.size w w') (w : World) (hT : Lib.Utf8Tabs 1 2 w) :
    Calls Tryz.prog 92 #[a.agg, b.agg, .func (.func f) #[] #[]] w fun e w' => e = .returned (okE (a.good && b.good) (alikeV cmp a b)) ∧ Below w.heap.size w w' := by
  have HT := hide hT
  clear hT
  have HI := hide (inside_any a.k a.b a.x a.s a.i)
  have HJ := hide (inside_any b.k b.b b.x b.s b.i)
  have HA := hide (fun ha hb => alike_good f cmp a b ha hb hn)
  clear hn
  have e1 : goodV a.k a.b a.x a.s a.i = a.good := rfl
  have e2 : goodV b.k b.b b.x b.s b.i = b.good := rfl
  rw [e1] at HI
  rw [e2] at HJ
  cases hg : a.good
  · rw [hg] at HI
    generalize ifcV ⟨a.k, a.b, a.x, a.s, a.i⟩ = fa at *
    generalize ifcV ⟨b.k, b.b, b.x, b.s, b.i⟩ = fb at *
    generalize b.good = gb at *
    clear HA e1 e2 hg
    generalize alikeV cmp a b = r
    obtain ⟨k, c, x, s, i⟩ := a
    obtain ⟨k', c', x', s', i'⟩ := b
    unfold VV.agg at *
    dsimp only at *
    cases gb
    all_goals
      go_enter Tryz.func92, Tryz.ntmps92
      go_wp2_with fail
      refine (unhide HI _ (tabs_below (unhide HT) (below2 w _ _))).mono ?_
      rintro e w1 ⟨rfl, hb⟩
      have hB := (below2 w _ _).trans (hb.mono (by simp; omega))
      obtain ⟨r0, r1, r2, r3, r4, rf, rl⟩ := five_below (five_new _ (w.heap.size + 1) _ _ _ _ _ _ (by simp)) hb
      clear hb
      go_wp2_with fail
      refine (unhide HJ _ (tabs_below (unhide HT) hB)).mono ?_
      rintro e w2 ⟨rfl, hb⟩
      go_wp2
      go_ret2
      exact ⟨by simp [okE, errB], hB.trans (hb.mono hB.size)⟩
  · rw [hg, ifcV_good (v := ⟨a.k, a.b, a.x, a.s, a.i⟩) hg] at HI
    have e3 : VV.ifc ⟨a.k, a.b, a.x, a.s, a.i⟩ = a.ifc := rfl
    rw [e3] at HI
    cases hh : b.good
    · rw [hh] at HJ
      generalize ifcV ⟨b.k, b.b, b.x, b.s, b.i⟩ = fb at *
      clear HA e1 e2 e3 hg hh
      generalize alikeV cmp a b = r
      generalize a.ifc = fa at *
      obtain ⟨k, c, x, s, i⟩ := a
      obtain ⟨k', c', x', s', i'⟩ := b
      unfold VV.agg at *
      dsimp only at *
      go_enter Tryz.func92, Tryz.ntmps92
      go_wp2_with fail
      refine (unhide HI _ (tabs_below (unhide HT) (below2 w _ _))).mono ?_
      rintro e w1 ⟨rfl, hb⟩
      have hB := (below2 w _ _).trans (hb.mono (by simp; omega))
      obtain ⟨r0, r1, r2, r3, r4, rf, rl⟩ := five_below (five_new _ (w.heap.size + 1) _ _ _ _ _ _ (by simp)) hb
      clear hb
      go_wp2_with fail
      refine (unhide HJ _ (tabs_below (unhide HT) hB)).mono ?_
      rintro e w2 ⟨rfl, hb⟩
      go_wp2
      go_ret2
      exact ⟨by simp [okE, errB], hB.trans (hb.mono hB.size)⟩
    · rw [hh, ifcV_good (v := ⟨b.k, b.b, b.x, b.s, b.i⟩) hh] at HJ
      have e4 : VV.ifc ⟨b.k, b.b, b.x, b.s, b.i⟩ = b.ifc := rfl
      rw [e4] at HJ
      have HA' := hide (unhide HA hg hh)
      clear HA e1 e2 e3 e4 hg hh
      generalize alikeV cmp a b = r at *
      generalize a.ifc = fa at *
      generalize b.ifc = fb at *
      obtain ⟨k, c, x, s, i⟩ := a
      obtain ⟨k', c', x', s', i'⟩ := b
      unfold VV.agg at *
      dsimp only at *
      go_enter Tryz.func92, Tryz.ntmps92
      go_wp2_with fail
      refine (unhide HI _ (tabs_below (unhide HT) (below2 w _ _))).mono ?_
      rintro e w1 ⟨rfl, hb⟩
      have hB := (below2 w _ _).trans (hb.mono (by simp; omega))
      obtain ⟨r0, r1, r2, r3, r4, rf, rl⟩ := five_below (five_new _ (w.heap.size + 1) _ _ _ _ _ _ (by simp)) hb
      clear hb
      go_wp2_with fail
      refine (unhide HJ _ (tabs_below (unhide HT) hB)).mono ?_
      rintro e w2 ⟨rfl, hb⟩
      have hB2 := hB.trans (hb.mono hB.size)
      clear hb r0 r1 r2 r3 r4 rf rl
      go_wp2_with fail
      refine (unhide HA' _).mono ?_
      rintro e w3 ⟨rfl, hb⟩
      go_wp2
      go_ret2
      exact ⟨by simp [okE, errB], hB2.trans (hb.mono hB2.size)⟩
theorem valueSame_any (a b : VV) (w : World) (hT : Lib.Utf8Tabs 1 2 w) :
    Calls Tryz.prog 80 #[a.agg, b.agg] w fun e w' => e = .returned (okE (a.good && b.good) (alikeV sameV a b)) ∧ Below w.heap.size w w' := by
  have HT := hide hT
  have HH := hide (hold_any 93 sameV a b (alike_num_same a.x b.x))
  clear hT
  unfold okE at *
  generalize (a.good && b.good) = g at *
  generalize alikeV sameV a b = r at *
  obtain ⟨k, c, x, s, i⟩ := a
  obtain ⟨k', c', x', s', i'⟩ := b
  unfold VV.agg at *
  dsimp only at *
  go_enter Tryz.func80, Tryz.ntmps80
  go_wp2_with fail
  refine (unhide HH _ (tabs_below (unhide HT) (below2 w _ _))).mono ?_
  rintro e w1 ⟨rfl, hb⟩
  go_wp2
  go_ret2
  exact ⟨rfl, (below2 w _ _).trans (hb.mono (by simp; omega))⟩
end Go.Proofs.YtcflglloopgieaaGreatDoor

/-! Vk -/
namespace Go.Proofs.YtcflglloopgieaaGreatDoor
open Go.RowKit FM
attribute [local go_sem] bits_run run_store_float
set_option maxHeartbeats 2000000 in
set_option maxRecDepth 100000 in
theorem refIs_any (a b : VV) (hx : a.x < 2 ^ 64) (hy : b.x < 2 ^ 64) (w : World) : Calls Tryz.prog 79 #[a.agg, b.agg] w fun e w' => e = .returned (.bool (alikeV sameV a b)) ∧ Below w.heap.size w w' := by
  have hE := eq_order a.x b.x hx hy
  have hX := nanF a.x
  have hY := nanF b.x
  rw [← fo] at hX hY
  have HM := hide (minus_any a.x hx)
  have HN := hide (minus_any b.x hy)
  obtain ⟨k, c, x, s, i⟩ := a
  obtain ⟨k', c', x', s', i'⟩ := b
  unfold VV.agg alikeV
  dsimp only at *
  by_cases hk : k = k'
  · subst hk
    by_cases h4 : k = 4
    · subst h4
      cases hn : isN x
      · cases hm : isN x'
        · rw [hn] at hX
          rw [hm] at hY
          by_cases hq : equalV x x' = true
          · rw [hq] at hE
            have hE2 : FloatKind.f64.format.order x x' = some .eq := by simpa using hE
            have hr : sameV x x' = (mnV x == mnV x') := by
              unfold equalV same0V sameV at hq
              unfold sameV mnV
              rw [hn, hm] at *
              simp at hq ⊢
              rw [Bool.eq_iff_iff]
              simp
              unfold sz at hq
              omega
            have hp : ((4 : Int) == 4 && if (4 : Int) = 4 then sameV x x' else c == c' && s.toList == s'.toList && i == i') = (mnV x == mnV x') := by rw [← hr]; rfl
            rw [hp]
            clear hr hp hq hn hm HM HN
            go_enter Tryz.func79, Tryz.ntmps79
            go_wp2_with fail
            go_quiet ((go_at_call 91; refine Calls.quiet_of_same (minus_any _ ?_ _); assumption))
            go_wp2
            go_ret
            refine ⟨?_, (below2 w _ _).trans (below_drewN' _ _ _)⟩
            rfl
          · have hq' : equalV x x' = false := by simpa using hq
            rw [hq'] at hE
            have hE2 : ¬ FloatKind.f64.format.order x x' = some .eq := by simpa using hE
            have hr : sameV x x' = false := by
              unfold equalV same0V at hq'
              rw [hn, hm] at hq'
              simp at hq'
              exact hq'.1
            have hp : ((4 : Int) == 4 && if (4 : Int) = 4 then sameV x x' else c == c' && s.toList == s'.toList && i == i') = false := by rw [hr]; rfl
            rw [hp]
            clear hr hp hq hq' hn hm hx hy
            go_enter Tryz.func79, Tryz.ntmps79
            go_wp2_with fail
            go_quiet (fail)
            go_wp2
            go_ret
            exact ⟨rfl, (below2 w _ _).trans (below_drewN' _ _ _)⟩
        · rw [hn] at hX
          rw [hm] at hY
          have hp : ((4 : Int) == 4 && if (4 : Int) = 4 then sameV x x' else c == c' && s.toList == s'.toList && i == i') = false := by
            have : x ≠ x' := fun e => by rw [e, hm] at hn; cases hn
            unfold sameV
            simp [hn, this]
          rw [hp]
          clear hp hE HM HN hn hm
          go_enter Tryz.func79, Tryz.ntmps79
          go_wp2
          go_ret
          exact ⟨rfl, below2 w _ _⟩
      · rw [hn] at hX
        have hp : ((4 : Int) == 4 && if (4 : Int) = 4 then sameV x x' else c == c' && s.toList == s'.toList && i == i') = isN x' := by
          unfold sameV
          simp [hn]
          intro e
          rw [← e, hn]
        rw [hp]
        clear hp hE HM HN hn
        generalize isN x' = ny at *
        go_enter Tryz.func79, Tryz.ntmps79
        go_wp2
        go_ret
        exact ⟨rfl, below2 w _ _⟩
    · have h4' : (k == 4) = false := by rw [beq_eq_false_iff_ne]; exact h4
      clear hE hX hY HM HN
      simp only [h4, if_false]
      go_enter Tryz.func79, Tryz.ntmps79
      go_wp2
      all_goals
        go_ret
        refine ⟨?_, below2 w _ _⟩
        simp [*]
  · have hk' : (k == k') = false := by rw [beq_eq_false_iff_ne]; exact hk
    simp only [hk', Bool.false_and]
    clear hE hX hY HM HN
    go_enter Tryz.func79, Tryz.ntmps79
    go_wp2
    go_ret
    exact ⟨rfl, below2 w _ _⟩
end Go.Proofs.YtcflglloopgieaaGreatDoor

/-! Dd -/
namespace Go.Proofs.YtcflglloopgieaaGreatDoor
open Go Go.Proofs Go.RowKit FM
set_option linter.unusedSimpArgs false
set_option linter.unusedVariables false
attribute [local go_sem] run_store_float
/-- What callable tells of a field. -/
def callV (v : VV) : Bool := if v.k == 1 || v.k == 7 then v.good else !thV v
def slotV (v : VV) : Bool := v.good && (v.k == 1 || v.k == 7)
/-- What same tells of two fields. -/
def samV (a b : VV) : Bool := if !thV a || !thV b then thV a == thV b else a.good && b.good && alikeV sameV a b
def difV (n f : VV) : Bool := thV f && !samV n f
def rsamV (a b : VV) : Bool := if a.k == 0 || b.k == 0 then (a.k != 0) == (b.k != 0) else alikeV sameV a b
def orV (v a : VV) : VV := if thV v then v else a
def undV : VV := ⟨1, false, 0, ByteArray.empty, 0⟩
def rorV (v : VV) : VV := if v.k != 0 then v else undV
set_option maxHeartbeats 2000000 in
set_option maxRecDepth 100000 in
theorem callable_any (v : VV) (hx : v.x < 2 ^ 64) (w : World) (hT : Lib.Utf8Tabs 1 2 w) : Calls Tryz.prog 116 #[v.agg] w fun e w' => e = .returned (.bool (callV v)) ∧ Below w.heap.size w w' := by
  have HC := hide (fun w hT => check_any v w hT)
  have HV := hide (there_any v hx)
  have HT := hide hT
  clear hT
  unfold callV
  have L0 := Lie.new1 w (.V v)
  obtain ⟨k, b, x, s, i⟩ := v
  unfold PB.obj VV.obj at L0
  unfold VV.agg errB at *
  dsimp only at *
  have LL := hide L0
  clear L0 hx
  generalize VV.good ⟨k, b, x, s, i⟩ = g at *
  generalize thV ⟨k, b, x, s, i⟩ = t at *
  by_cases hk : k = 1
  · subst hk
    cases g
    · go_enter Tryz.func116, Tryz.ntmps116
      go_wp2_with (fail)
      refine (unhide HC _ (tabs_below (unhide HT) (unhide LL).below)).mono ?_
      rintro _ w1 ⟨rfl, hb⟩
      replace LL := hide ((unhide LL).on hb)
      clear hb
      obtain ⟨f0, c0_0, c0_1, c0_2, c0_3, c0_4⟩ := (unhide LL).one
      dsimp only at f0 c0_0 c0_1 c0_2 c0_3 c0_4
      go_wp2_with (fail)
      go_ret
      exact ⟨rfl, (unhide LL).below⟩
    · go_enter Tryz.func116, Tryz.ntmps116
      go_wp2_with (fail)
      refine (unhide HC _ (tabs_below (unhide HT) (unhide LL).below)).mono ?_
      rintro _ w1 ⟨rfl, hb⟩
      replace LL := hide ((unhide LL).on hb)
      clear hb
      obtain ⟨f0, c0_0, c0_1, c0_2, c0_3, c0_4⟩ := (unhide LL).one
      dsimp only at f0 c0_0 c0_1 c0_2 c0_3 c0_4
      go_wp2_with (fail)
      go_ret
      exact ⟨rfl, (unhide LL).below⟩
  · by_cases hk7 : k = 7
    · subst hk7
      cases g
      · go_enter Tryz.func116, Tryz.ntmps116
        go_wp2_with (fail)
        refine (unhide HC _ (tabs_below (unhide HT) (unhide LL).below)).mono ?_
        rintro _ w1 ⟨rfl, hb⟩
        replace LL := hide ((unhide LL).on hb)
        clear hb
        obtain ⟨f0, c0_0, c0_1, c0_2, c0_3, c0_4⟩ := (unhide LL).one
        dsimp only at f0 c0_0 c0_1 c0_2 c0_3 c0_4
        go_wp2_with (fail)
        go_ret
        exact ⟨rfl, (unhide LL).below⟩
      · go_enter Tryz.func116, Tryz.ntmps116
        go_wp2_with (fail)
        refine (unhide HC _ (tabs_below (unhide HT) (unhide LL).below)).mono ?_
        rintro _ w1 ⟨rfl, hb⟩
        replace LL := hide ((unhide LL).on hb)
        clear hb
        obtain ⟨f0, c0_0, c0_1, c0_2, c0_3, c0_4⟩ := (unhide LL).one
        dsimp only at f0 c0_0 c0_1 c0_2 c0_3 c0_4
        go_wp2_with (fail)
        go_ret
        exact ⟨rfl, (unhide LL).below⟩
    · have e1 : (k == 1) = false := by simp [hk]
      have e7 : (k == 7) = false := by simp [hk7]
      rw [e1, e7]
      go_enter Tryz.func116, Tryz.ntmps116
      go_wp2_with (fail)
      refine (unhide HV _).mono ?_
      rintro _ w1 ⟨rfl, hb⟩
      replace LL := hide ((unhide LL).on hb)
      clear hb
      obtain ⟨f0, c0_0, c0_1, c0_2, c0_3, c0_4⟩ := (unhide LL).one
      dsimp only at f0 c0_0 c0_1 c0_2 c0_3 c0_4
      go_wp2_with (fail)
      go_ret
      exact ⟨rfl, (unhide LL).below⟩
set_option maxHeartbeats 2000000 in
set_option maxRecDepth 100000 in
theorem refSlot_any (v : VV) (hx : v.x < 2 ^ 64) (w : World) : Calls Tryz.prog 89 #[v.agg] w fun e w' => e = .returned (.bool (slotV v)) ∧ Below w.heap.size w w' := by
  have HC := hide (refGood_any v hx)
  unfold slotV
  have L0 := Lie.new1 w (.V v)
  obtain ⟨k, b, x, s, i⟩ := v
  unfold PB.obj VV.obj at L0
  unfold VV.agg at *
  dsimp only at *
  have LL := hide L0
  clear L0 hx
  generalize VV.good ⟨k, b, x, s, i⟩ = g at *
  cases g
  · go_enter Tryz.func89, Tryz.ntmps89
    go_wp2_with (fail)
    refine (unhide HC _).mono ?_
    rintro _ w1 ⟨rfl, hb⟩
    replace LL := hide ((unhide LL).on hb)
    clear hb
    obtain ⟨f0, c0_0, c0_1, c0_2, c0_3, c0_4⟩ := (unhide LL).one
    dsimp only at f0 c0_0 c0_1 c0_2 c0_3 c0_4
    go_wp2_with (fail)
    go_ret
    exact ⟨rfl, (unhide LL).below⟩
  · by_cases hk : k = 1
    · subst hk
      go_enter Tryz.func89, Tryz.ntmps89
      go_wp2_with (fail)
      refine (unhide HC _).mono ?_
      rintro _ w1 ⟨rfl, hb⟩
      replace LL := hide ((unhide LL).on hb)
      clear hb
      obtain ⟨f0, c0_0, c0_1, c0_2, c0_3, c0_4⟩ := (unhide LL).one
      dsimp only at f0 c0_0 c0_1 c0_2 c0_3 c0_4
      go_wp2_with (fail)
      go_ret
      exact ⟨rfl, (unhide LL).below⟩
    · have e1 : (k == 1) = false := by simp [hk]
      rw [e1]
      go_enter Tryz.func89, Tryz.ntmps89
      go_wp2_with (fail)
      refine (unhide HC _).mono ?_
      rintro _ w1 ⟨rfl, hb⟩
      replace LL := hide ((unhide LL).on hb)
      clear hb
      obtain ⟨f0, c0_0, c0_1, c0_2, c0_3, c0_4⟩ := (unhide LL).one
      dsimp only at f0 c0_0 c0_1 c0_2 c0_3 c0_4
      go_wp2_with (fail)
      go_ret
      exact ⟨rfl, (unhide LL).below⟩
end Go.Proofs.YtcflglloopgieaaGreatDoor

/-! De -/
namespace Go.Proofs.YtcflglloopgieaaGreatDoor
open Go Go.Proofs Go.RowKit FM
set_option linter.unusedSimpArgs false
set_option linter.unusedVariables false
theorem vv10 {w X : World} {k : Int} {b1 : Bool} {x : Nat} {s : ByteArray} {i : Int} {k2 : Int} {b2 : Bool} {x2 : Nat} {s2 : ByteArray} {i2 : Int} (h : Lie w X [.V ⟨k, b1, x, s, i⟩, .V ⟨k2, b2, x2, s2, i2⟩]) :
    X.cell? ⟨w.heap.size, 0, none⟩ = some (.int .i64 k) ∧ X.cell? ⟨w.heap.size, 1, none⟩ = some (.bool b1) ∧ X.cell? ⟨w.heap.size, 2, none⟩ = some (.float .f64 x) ∧ X.cell? ⟨w.heap.size, 3, none⟩ = some (.string s) ∧ X.cell? ⟨w.heap.size, 4, none⟩ = some (.int .i64 i) ∧ X.cell? ⟨w.heap.size + 1, 0, none⟩ = some (.int .i64 k2) ∧ X.cell? ⟨w.heap.size + 1, 1, none⟩ = some (.bool b2) ∧ X.cell? ⟨w.heap.size + 1, 2, none⟩ = some (.float .f64 x2) ∧ X.cell? ⟨w.heap.size + 1, 3, none⟩ = some (.string s2) ∧ X.cell? ⟨w.heap.size + 1, 4, none⟩ = some (.int .i64 i2) := by
  obtain ⟨-, a0, a1, a2, a3, a4⟩ := h.one
  obtain ⟨-, b0, b1, b2, b3, b4⟩ := h.two
  exact ⟨a0, a1, a2, a3, a4, b0, b1, b2, b3, b4⟩
set_option maxHeartbeats 2000000 in
set_option maxRecDepth 100000 in
theorem same51 (a b : VV) (ha : a.x < 2 ^ 64) (hb : b.x < 2 ^ 64) (w : World) (hT : Lib.Utf8Tabs 1 2 w) : Calls Tryz.prog 98 #[a.agg, b.agg] w fun e w' => e = .returned (.bool (samV a b)) ∧ Below w.heap.size w w' := by
  have HA := hide (there_any a ha)
  have HB := hide (there_any b hb)
  have HS := hide (fun w hT => valueSame_any a b w hT)
  have HT := hide hT
  clear hT
  unfold samV
  have L0 := Lie.new2 w (.V a) (.V b)
  obtain ⟨k, b1, x, s, i⟩ := a
  obtain ⟨k2, b2, x2, s2, i2⟩ := b
  unfold PB.obj VV.obj at L0
  unfold VV.agg okE at *
  dsimp only at *
  have LL := hide L0
  clear L0 ha hb
  generalize thV ⟨k, b1, x, s, i⟩ = ta at *
  generalize thV ⟨k2, b2, x2, s2, i2⟩ = tb at *
  generalize (VV.good ⟨k, b1, x, s, i⟩ && VV.good ⟨k2, b2, x2, s2, i2⟩) = g at *
  generalize alikeV sameV ⟨k, b1, x, s, i⟩ ⟨k2, b2, x2, s2, i2⟩ = al at *
  cases ta
  · go_enter Tryz.func98, Tryz.ntmps98
    go_wp2_with (fail)
    refine (unhide HA _).mono ?_
    rintro _ w1 ⟨rfl, hb⟩
    replace LL := hide ((unhide LL).on hb)
    clear hb
    obtain ⟨f0, c0_0, c0_1, c0_2, c0_3, c0_4⟩ := (unhide LL).one
    obtain ⟨f1, c1_0, c1_1, c1_2, c1_3, c1_4⟩ := (unhide LL).two
    dsimp only at f0 c0_0 c0_1 c0_2 c0_3 c0_4 f1 c1_0 c1_1 c1_2 c1_3 c1_4
    go_wp2_with (fail)
    go_region_held3 (fun X => X.cell? ⟨w.heap.size, 0, none⟩ = some (.int .i64 k) ∧ X.cell? ⟨w.heap.size, 1, none⟩ = some (.bool b1) ∧ X.cell? ⟨w.heap.size, 2, none⟩ = some (.float .f64 x) ∧ X.cell? ⟨w.heap.size, 3, none⟩ = some (.string s) ∧ X.cell? ⟨w.heap.size, 4, none⟩ = some (.int .i64 i) ∧ X.cell? ⟨w.heap.size + 1, 0, none⟩ = some (.int .i64 k2) ∧ X.cell? ⟨w.heap.size + 1, 1, none⟩ = some (.bool b2) ∧ X.cell? ⟨w.heap.size + 1, 2, none⟩ = some (.float .f64 x2) ∧ X.cell? ⟨w.heap.size + 1, 3, none⟩ = some (.string s2) ∧ X.cell? ⟨w.heap.size + 1, 4, none⟩ = some (.int .i64 i2)) (first | exact vv10 k2 | exact vv10 k1 | exact vv10 (unhide LL).drew) ((first | (go_at_call_of 104 (Value.string s); refine (unhide HA _).mono ?_; rintro _ w8 ⟨rfl, hb1⟩; have k1 := ((unhide LL).drew).on hb1) | (go_at_call_of 104 (Value.string s2); refine (unhide HB _).mono ?_; rintro _ w9 ⟨rfl, hb2⟩; have k2 := k1.on hb2)))
    replace LL := hide k2
    clear k1 k2 hb1 hb2
    go_wp2_with (fail)
    go_ret
    exact ⟨rfl, (unhide LL).below⟩
  · cases tb
    · go_enter Tryz.func98, Tryz.ntmps98
      go_wp2_with (fail)
      refine (unhide HA _).mono ?_
      rintro _ w2 ⟨rfl, hb⟩
      replace LL := hide ((unhide LL).on hb)
      clear hb
      obtain ⟨f0, c0_0, c0_1, c0_2, c0_3, c0_4⟩ := (unhide LL).one
      obtain ⟨f1, c1_0, c1_1, c1_2, c1_3, c1_4⟩ := (unhide LL).two
      dsimp only at f0 c0_0 c0_1 c0_2 c0_3 c0_4 f1 c1_0 c1_1 c1_2 c1_3 c1_4
      go_wp2_with (fail)
      refine (unhide HB _).mono ?_
      rintro _ w3 ⟨rfl, hb⟩
      clear f0 c0_0 c0_1 c0_2 c0_3 c0_4 f1 c1_0 c1_1 c1_2 c1_3 c1_4
      replace LL := hide ((unhide LL).on hb)
      clear hb
      obtain ⟨f0, c0_0, c0_1, c0_2, c0_3, c0_4⟩ := (unhide LL).one
      obtain ⟨f1, c1_0, c1_1, c1_2, c1_3, c1_4⟩ := (unhide LL).two
      dsimp only at f0 c0_0 c0_1 c0_2 c0_3 c0_4 f1 c1_0 c1_1 c1_2 c1_3 c1_4
      go_wp2_with (fail)
      go_region_held3 (fun X => X.cell? ⟨w.heap.size, 0, none⟩ = some (.int .i64 k) ∧ X.cell? ⟨w.heap.size, 1, none⟩ = some (.bool b1) ∧ X.cell? ⟨w.heap.size, 2, none⟩ = some (.float .f64 x) ∧ X.cell? ⟨w.heap.size, 3, none⟩ = some (.string s) ∧ X.cell? ⟨w.heap.size, 4, none⟩ = some (.int .i64 i) ∧ X.cell? ⟨w.heap.size + 1, 0, none⟩ = some (.int .i64 k2) ∧ X.cell? ⟨w.heap.size + 1, 1, none⟩ = some (.bool b2) ∧ X.cell? ⟨w.heap.size + 1, 2, none⟩ = some (.float .f64 x2) ∧ X.cell? ⟨w.heap.size + 1, 3, none⟩ = some (.string s2) ∧ X.cell? ⟨w.heap.size + 1, 4, none⟩ = some (.int .i64 i2)) (first | exact vv10 k2 | exact vv10 k1 | exact vv10 (unhide LL).drew) ((first | (go_at_call_of 104 (Value.string s); refine (unhide HA _).mono ?_; rintro _ w8 ⟨rfl, hb1⟩; have k1 := ((unhide LL).drew).on hb1) | (go_at_call_of 104 (Value.string s2); refine (unhide HB _).mono ?_; rintro _ w9 ⟨rfl, hb2⟩; have k2 := k1.on hb2)))
      replace LL := hide k2
      clear k1 k2 hb1 hb2
      go_wp2_with (fail)
      go_ret
      exact ⟨rfl, (unhide LL).below⟩
    · go_enter Tryz.func98, Tryz.ntmps98
      go_wp2_with (fail)
      refine (unhide HA _).mono ?_
      rintro _ w2 ⟨rfl, hb⟩
      replace LL := hide ((unhide LL).on hb)
      clear hb
      obtain ⟨f0, c0_0, c0_1, c0_2, c0_3, c0_4⟩ := (unhide LL).one
      obtain ⟨f1, c1_0, c1_1, c1_2, c1_3, c1_4⟩ := (unhide LL).two
      dsimp only at f0 c0_0 c0_1 c0_2 c0_3 c0_4 f1 c1_0 c1_1 c1_2 c1_3 c1_4
      go_wp2_with (fail)
      refine (unhide HB _).mono ?_
      rintro _ w3 ⟨rfl, hb⟩
      clear f0 c0_0 c0_1 c0_2 c0_3 c0_4 f1 c1_0 c1_1 c1_2 c1_3 c1_4
      replace LL := hide ((unhide LL).on hb)
      clear hb
      obtain ⟨f0, c0_0, c0_1, c0_2, c0_3, c0_4⟩ := (unhide LL).one
      obtain ⟨f1, c1_0, c1_1, c1_2, c1_3, c1_4⟩ := (unhide LL).two
      dsimp only at f0 c0_0 c0_1 c0_2 c0_3 c0_4 f1 c1_0 c1_1 c1_2 c1_3 c1_4
      go_wp2_with (fail)
      refine (unhide HS _ (tabs_below (unhide HT) (unhide LL).below)).mono ?_
      rintro _ w4 ⟨rfl, hb⟩
      clear f0 c0_0 c0_1 c0_2 c0_3 c0_4 f1 c1_0 c1_1 c1_2 c1_3 c1_4
      replace LL := hide ((unhide LL).on hb)
      clear hb
      obtain ⟨f0, c0_0, c0_1, c0_2, c0_3, c0_4⟩ := (unhide LL).one
      obtain ⟨f1, c1_0, c1_1, c1_2, c1_3, c1_4⟩ := (unhide LL).two
      dsimp only at f0 c0_0 c0_1 c0_2 c0_3 c0_4 f1 c1_0 c1_1 c1_2 c1_3 c1_4
      go_wp2_with (fail)
      go_ret
      exact ⟨rfl, (unhide LL).below⟩
set_option maxHeartbeats 2000000 in
set_option maxRecDepth 100000 in
theorem refSame_any (a b : VV) (ha : a.x < 2 ^ 64) (hb : b.x < 2 ^ 64) (w : World) : Calls Tryz.prog 64 #[a.agg, b.agg] w fun e w' => e = .returned (.bool (rsamV a b)) ∧ Below w.heap.size w w' := by
  have HA := hide (refThere_any a)
  have HB := hide (refThere_any b)
  have HS := hide (refIs_any a b ha hb)
  unfold rsamV
  have L0 := Lie.new2 w (.V a) (.V b)
  obtain ⟨k, b1, x, s, i⟩ := a
  obtain ⟨k2, b2, x2, s2, i2⟩ := b
  unfold PB.obj VV.obj at L0
  unfold VV.agg at *
  dsimp only at *
  have LL := hide L0
  clear L0 ha hb
  generalize alikeV sameV ⟨k, b1, x, s, i⟩ ⟨k2, b2, x2, s2, i2⟩ = al at *
  have ea : (k == 0) = !(k != 0) := (Bool.not_not _).symm
  have eb : (k2 == 0) = !(k2 != 0) := (Bool.not_not _).symm
  rw [ea, eb]
  clear ea eb
  generalize hta : (k != 0) = ta at *
  generalize htb : (k2 != 0) = tb at *
  clear hta htb
  cases ta
  · go_enter Tryz.func64, Tryz.ntmps64
    go_wp2_with (fail)
    refine (unhide HA _).mono ?_
    rintro _ w1 ⟨rfl, hb⟩
    replace LL := hide ((unhide LL).on hb)
    clear hb
    obtain ⟨f0, c0_0, c0_1, c0_2, c0_3, c0_4⟩ := (unhide LL).one
    obtain ⟨f1, c1_0, c1_1, c1_2, c1_3, c1_4⟩ := (unhide LL).two
    dsimp only at f0 c0_0 c0_1 c0_2 c0_3 c0_4 f1 c1_0 c1_1 c1_2 c1_3 c1_4
    go_wp2_with (fail)
    go_region_held3 (fun X => X.cell? ⟨w.heap.size, 0, none⟩ = some (.int .i64 k) ∧ X.cell? ⟨w.heap.size, 1, none⟩ = some (.bool b1) ∧ X.cell? ⟨w.heap.size, 2, none⟩ = some (.float .f64 x) ∧ X.cell? ⟨w.heap.size, 3, none⟩ = some (.string s) ∧ X.cell? ⟨w.heap.size, 4, none⟩ = some (.int .i64 i) ∧ X.cell? ⟨w.heap.size + 1, 0, none⟩ = some (.int .i64 k2) ∧ X.cell? ⟨w.heap.size + 1, 1, none⟩ = some (.bool b2) ∧ X.cell? ⟨w.heap.size + 1, 2, none⟩ = some (.float .f64 x2) ∧ X.cell? ⟨w.heap.size + 1, 3, none⟩ = some (.string s2) ∧ X.cell? ⟨w.heap.size + 1, 4, none⟩ = some (.int .i64 i2)) (first | exact vv10 k2 | exact vv10 k1 | exact vv10 (unhide LL).drew) ((first | (go_at_call_of 28 (Value.string s); refine (unhide HA _).mono ?_; rintro _ w8 ⟨rfl, hb1⟩; have k1 := ((unhide LL).drew).on hb1) | (go_at_call_of 28 (Value.string s2); refine (unhide HB _).mono ?_; rintro _ w9 ⟨rfl, hb2⟩; have k2 := k1.on hb2)))
    replace LL := hide k2
    clear k1 k2 hb1 hb2
    go_wp2_with (fail)
    go_ret
    exact ⟨rfl, (unhide LL).below⟩
  · cases tb
    · go_enter Tryz.func64, Tryz.ntmps64
      go_wp2_with (fail)
      refine (unhide HA _).mono ?_
      rintro _ w2 ⟨rfl, hb⟩
      replace LL := hide ((unhide LL).on hb)
      clear hb
      obtain ⟨f0, c0_0, c0_1, c0_2, c0_3, c0_4⟩ := (unhide LL).one
      obtain ⟨f1, c1_0, c1_1, c1_2, c1_3, c1_4⟩ := (unhide LL).two
      dsimp only at f0 c0_0 c0_1 c0_2 c0_3 c0_4 f1 c1_0 c1_1 c1_2 c1_3 c1_4
      go_wp2_with (fail)
      refine (unhide HB _).mono ?_
      rintro _ w3 ⟨rfl, hb⟩
      clear f0 c0_0 c0_1 c0_2 c0_3 c0_4 f1 c1_0 c1_1 c1_2 c1_3 c1_4
      replace LL := hide ((unhide LL).on hb)
      clear hb
      obtain ⟨f0, c0_0, c0_1, c0_2, c0_3, c0_4⟩ := (unhide LL).one
      obtain ⟨f1, c1_0, c1_1, c1_2, c1_3, c1_4⟩ := (unhide LL).two
      dsimp only at f0 c0_0 c0_1 c0_2 c0_3 c0_4 f1 c1_0 c1_1 c1_2 c1_3 c1_4
      go_wp2_with (fail)
      go_region_held3 (fun X => X.cell? ⟨w.heap.size, 0, none⟩ = some (.int .i64 k) ∧ X.cell? ⟨w.heap.size, 1, none⟩ = some (.bool b1) ∧ X.cell? ⟨w.heap.size, 2, none⟩ = some (.float .f64 x) ∧ X.cell? ⟨w.heap.size, 3, none⟩ = some (.string s) ∧ X.cell? ⟨w.heap.size, 4, none⟩ = some (.int .i64 i) ∧ X.cell? ⟨w.heap.size + 1, 0, none⟩ = some (.int .i64 k2) ∧ X.cell? ⟨w.heap.size + 1, 1, none⟩ = some (.bool b2) ∧ X.cell? ⟨w.heap.size + 1, 2, none⟩ = some (.float .f64 x2) ∧ X.cell? ⟨w.heap.size + 1, 3, none⟩ = some (.string s2) ∧ X.cell? ⟨w.heap.size + 1, 4, none⟩ = some (.int .i64 i2)) (first | exact vv10 k2 | exact vv10 k1 | exact vv10 (unhide LL).drew) ((first | (go_at_call_of 28 (Value.string s); refine (unhide HA _).mono ?_; rintro _ w8 ⟨rfl, hb1⟩; have k1 := ((unhide LL).drew).on hb1) | (go_at_call_of 28 (Value.string s2); refine (unhide HB _).mono ?_; rintro _ w9 ⟨rfl, hb2⟩; have k2 := k1.on hb2)))
      replace LL := hide k2
      clear k1 k2 hb1 hb2
      go_wp2_with (fail)
      go_ret
      exact ⟨rfl, (unhide LL).below⟩
    · go_enter Tryz.func64, Tryz.ntmps64
      go_wp2_with (fail)
      refine (unhide HA _).mono ?_
      rintro _ w2 ⟨rfl, hb⟩
      replace LL := hide ((unhide LL).on hb)
      clear hb
      obtain ⟨f0, c0_0, c0_1, c0_2, c0_3, c0_4⟩ := (unhide LL).one
      obtain ⟨f1, c1_0, c1_1, c1_2, c1_3, c1_4⟩ := (unhide LL).two
      dsimp only at f0 c0_0 c0_1 c0_2 c0_3 c0_4 f1 c1_0 c1_1 c1_2 c1_3 c1_4
      go_wp2_with (fail)
      refine (unhide HB _).mono ?_
      rintro _ w3 ⟨rfl, hb⟩
      clear f0 c0_0 c0_1 c0_2 c0_3 c0_4 f1 c1_0 c1_1 c1_2 c1_3 c1_4
      replace LL := hide ((unhide LL).on hb)
      clear hb
      obtain ⟨f0, c0_0, c0_1, c0_2, c0_3, c0_4⟩ := (unhide LL).one
      obtain ⟨f1, c1_0, c1_1, c1_2, c1_3, c1_4⟩ := (unhide LL).two
      dsimp only at f0 c0_0 c0_1 c0_2 c0_3 c0_4 f1 c1_0 c1_1 c1_2 c1_3 c1_4
      go_wp2_with (fail)
      refine (unhide HS _).mono ?_
      rintro _ w4 ⟨rfl, hb⟩
      clear f0 c0_0 c0_1 c0_2 c0_3 c0_4 f1 c1_0 c1_1 c1_2 c1_3 c1_4
      replace LL := hide ((unhide LL).on hb)
      clear hb
      obtain ⟨f0, c0_0, c0_1, c0_2, c0_3, c0_4⟩ := (unhide LL).one
      obtain ⟨f1, c1_0, c1_1, c1_2, c1_3, c1_4⟩ := (unhide LL).two
      dsimp only at f0 c0_0 c0_1 c0_2 c0_3 c0_4 f1 c1_0 c1_1 c1_2 c1_3 c1_4
      go_wp2_with (fail)
      go_ret
      exact ⟨rfl, (unhide LL).below⟩
end Go.Proofs.YtcflglloopgieaaGreatDoor

/-! Vo -/
namespace Go.Proofs.YtcflglloopgieaaGreatDoor
open Go.RowKit Go.WideShapes Go.ChangeShapes
theorem cellsOf24 : Tryz.prog.cellsOf 31 = 5 := by kernel_rfl
theorem cellsOf3 : Tryz.prog.cellsOf 3 = 1 := by kernel_rfl
theorem cellsOf4 : Tryz.prog.cellsOf 4 = 1 := by kernel_rfl
theorem cellsOf22 : Tryz.prog.cellsOf 29 = 1 := by kernel_rfl
theorem cellsOf9 : Tryz.prog.cellsOf 9 = 1 := by kernel_rfl
section
variable {H : Type} {enc : TypeId × Value → H} {P : Program} {W : World} {base : Nat} {sp : Nat → Bool} {held : Bool} {m : Nat} {c : Value} {x : DataW H × List MemPlace} {t : TypeId}
theorem cell_bool (hu : P.underlying t = some .bool) (h : DataW.trod enc P W base sp held m t [c] = some x) : ∃ b, c = .bool b ∧ x = (.lit (.bool b), []) := by
  cases m with
  | zero => simp [DataW.trod] at h
  | succ m =>
    unfold DataW.trod at h
    rw [hu] at h
    split at h <;> simp_all
theorem wf64 {b : Nat} (h : (Lit.float .f64 b).wf = true) : b < 2 ^ 64 := by
  unfold Lit.wf at h
  exact of_decide_eq_true h
theorem cell_float (hu : P.underlying t = some (.float .f64)) (h : DataW.trod enc P W base sp held m t [c] = some x) : ∃ b, c = .float .f64 b ∧ b < 2 ^ 64 ∧ x = (.lit (.float .f64 b), []) := by
  cases m with
  | zero => simp [DataW.trod] at h
  | succ m =>
    unfold DataW.trod at h
    rw [hu] at h
    split at h <;> simp_all
    rename_i e
    subst e
    exact wf64 h.1.2
theorem cell_string (hu : P.underlying t = some .string) (h : DataW.trod enc P W base sp held m t [c] = some x) : ∃ s, c = .string s ∧ s.size ≤ maxLen ∧ x = (.lit (.string s.data.toList), []) := by
  cases m with
  | zero => simp [DataW.trod] at h
  | succ m =>
    unfold DataW.trod at h
    rw [hu] at h
    split at h <;> simp_all
theorem cell_int (hu : P.underlying t = some (.int .i64)) (h : DataW.trod enc P W base sp held m t [c] = some x) : ∃ n, c = .int .i64 n ∧ (Lit.int .i64 n).wf = true ∧ x = (.lit (.int .i64 n), []) := by
  cases m with
  | zero => simp [DataW.trod] at h
  | succ m =>
    unfold DataW.trod at h
    rw [hu] at h
    split at h <;> simp_all
/-- Five cells that read as a value. -/
theorem cells_value' {f0 f1 f2 f3 f4 : Field} {cs : List Value} (hs : P.underlying t = some (.struct #[f0, f1, f2, f3, f4])) (hC : P.cellsOf t = 5)
    (o0 : f0.offset = 0) (o1 : f1.offset = 1) (o2 : f2.offset = 2) (o3 : f3.offset = 3) (o4 : f4.offset = 4)
    (u0 : P.underlying f0.type = some (.int .i64)) (u1 : P.underlying f1.type = some .bool) (u2 : P.underlying f2.type = some (.float .f64)) (u3 : P.underlying f3.type = some .string) (u4 : P.underlying f4.type = some (.int .i64))
    (s0 : P.cellsOf f0.type = 1) (s1 : P.cellsOf f1.type = 1) (s2 : P.cellsOf f2.type = 1) (s3 : P.cellsOf f3.type = 1) (s4 : P.cellsOf f4.type = 1)
    (h : DataW.trod enc P W base sp held m t cs = some x) :
    ∃ u : VV, cs = [.int .i64 u.k, .bool u.b, .float .f64 u.x, .string u.s, .int .i64 u.i] ∧ u.x < 2 ^ 64 ∧ u.s.size ≤ maxLen ∧ (Lit.int .i64 u.k).wf = true ∧ (Lit.int .i64 u.i).wf = true := by
  obtain ⟨xs, n, _, rfl, hl, hlen, hf⟩ := DataW.trod_struct hs h
  rw [hC] at hl
  match cs, hl with
  | [c0, c1, c2, c3, c4], _ =>
    have h0 := hf 0 _ rfl
    have h1 := hf 1 _ rfl
    have h2 := hf 2 _ rfl
    have h3 := hf 3 _ rfl
    have h4 := hf 4 _ rfl
    simp [s0, s1, s2, s3, s4, o0, o1, o2, o3, o4] at h0 h1 h2 h3 h4 hlen
    have g : ∀ j, j < 5 → ∃ y, xs[j]? = some y := fun j hj => ⟨_, List.getElem?_eq_getElem (by omega)⟩
    obtain ⟨y0, e0⟩ := g 0 (by omega)
    obtain ⟨y1, e1⟩ := g 1 (by omega)
    obtain ⟨y2, e2⟩ := g 2 (by omega)
    obtain ⟨y3, e3⟩ := g 3 (by omega)
    obtain ⟨y4, e4⟩ := g 4 (by omega)
    rw [e0] at h0
    rw [e1] at h1
    rw [e2] at h2
    rw [e3] at h3
    rw [e4] at h4
    obtain ⟨k, rfl, wk, -⟩ := cell_int u0 h0
    obtain ⟨b, rfl, -⟩ := cell_bool u1 h1
    obtain ⟨f, rfl, wf, -⟩ := cell_float u2 h2
    obtain ⟨s, rfl, ws, -⟩ := cell_string u3 h3
    obtain ⟨i, rfl, wi, -⟩ := cell_int u4 h4
    exact ⟨⟨k, b, f, s, i⟩, rfl, wf, ws, wk, wi⟩
end
set_option maxRecDepth 100000 in
theorem cells_value {H : Type} {enc : TypeId × Value → H} {W : World} {base : Nat} {sp : Nat → Bool} {held : Bool} {m : Nat} {x : DataW H × List MemPlace} {cs : List Value} (h : DataW.trod enc Tryz.prog W base sp held m 31 cs = some x) :
    ∃ u : VV, cs = [.int .i64 u.k, .bool u.b, .float .f64 u.x, .string u.s, .int .i64 u.i] ∧ u.x < 2 ^ 64 ∧ u.s.size ≤ maxLen ∧ (Lit.int .i64 u.k).wf = true ∧ (Lit.int .i64 u.i).wf = true :=
  cells_value' Tryz.underlying31 cellsOf24 rfl rfl rfl rfl rfl Tryz.underlying3 Tryz.underlying4 Tryz.underlying29 Tryz.underlying9 Tryz.underlying3 cellsOf3 cellsOf4 cellsOf22 cellsOf9 cellsOf3 h
set_option maxRecDepth 100000 in
theorem open_value {H : Type} {enc : TypeId × Value → H} {W : World} {base : Nat} {sp : Nat → Bool} {held : Bool} {r : Reach} {b0 : Nat} {v : Value} {d : DataW H} {p : List MemPlace} (hv : Value.okWide Tryz.prog W r b0 31 v) (h : DataW.Trod enc Tryz.prog W base sp held 31 v d p) :
    ∃ u : VV, v = u.agg ∧ u.x < 2 ^ 64 ∧ u.s.size ≤ maxLen ∧ (Lit.int .i64 u.k).wf = true ∧ (Lit.int .i64 u.i).wf = true := by
  obtain ⟨cs, rfl, hsz⟩ := okWide_struct Tryz.underlying31 hv
  obtain ⟨fuel, hf⟩ := h
  obtain ⟨u, hc, h1, h2, h3, h4⟩ := cells_value hf
  refine ⟨u, ?_, h1, h2, h3, h4⟩
  have hc' : cs.toList = [.int .i64 u.k, .bool u.b, .float .f64 u.x, .string u.s, .int .i64 u.i] := hc
  have : cs = #[.int .i64 u.k, .bool u.b, .float .f64 u.x, .string u.s, .int .i64 u.i] := Array.toList_inj.1 hc'
  rw [this]
  rfl
end Go.Proofs.YtcflglloopgieaaGreatDoor
