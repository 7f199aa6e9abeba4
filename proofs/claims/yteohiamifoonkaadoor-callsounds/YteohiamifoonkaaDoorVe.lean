import Derived.Test.YteohiamifoonkaaDoorVd
namespace Go.Proofs.YteohiamifoonkaaDoor
open Go.RowKit FM
attribute [local go_sem] bits_run run_store_float
set_option maxHeartbeats 2000000 in
theorem good_4 (b : Bool) (x : Nat) (s : ByteArray) (i : Int) (w : World) :
    Calls Tryd.prog 8 #[.agg #[.int .i64 4, .bool b, .float .f64 x, .string s, .int .i64 i]] w fun e w' => e = .returned (.bool (goodV 4 b x s i)) ∧ Below w.heap.size w w' := by
  unfold goodV
  generalize fitV s = ft
  cases b
  all_goals
    go_enter Tryd.func8, Tryd.ntmps8
    go_wp2
    all_goals
      go_ret
      refine ⟨?_, (Below.refl _ _).alloc (Nat.le_refl _) _⟩
      simp [inG, strV, *]
theorem strV_x {k : Int} {b : Bool} {x : Nat} {s : ByteArray} {i : Int} (hk : k ≠ 4) (hx : x ≠ 0) : goodV k b x s i = false := by
  unfold goodV inG strV
  simp [hk, hx]
set_option maxHeartbeats 2000000 in
theorem good_m (k : Int) (hk : k = 1 ∨ k = 2 ∨ k = 3 ∨ k = 5 ∨ k = 6 ∨ k = 7) (b : Bool) (s : ByteArray) (i : Int) (w : World) :
    Calls Tryd.prog 8 #[.agg #[.int .i64 k, .bool b, .float .f64 9223372036854775808, .string s, .int .i64 i]] w fun e w' => e = .returned (.bool (goodV k b 9223372036854775808 s i)) ∧ Below w.heap.size w w' := by
  rw [strV_x (by omega) (by decide)]
  have a1 := o_m0
  have a2 := o_n0
  have a3 := quo_neg
  rcases hk with rfl | rfl | rfl | rfl | rfl | rfl
  all_goals
    cases b
    all_goals
      go_enter Tryd.func8, Tryd.ntmps8
      go_wp2
      go_ret
      exact ⟨rfl, (Below.refl _ _).alloc (Nat.le_refl _) _⟩
set_option maxHeartbeats 2000000 in
theorem good_y (k : Int) (hk : k = 1 ∨ k = 2 ∨ k = 3 ∨ k = 5 ∨ k = 6 ∨ k = 7) (b : Bool) (x : Nat) (hx : (FloatKind.f64.format.order x 0 == some .eq) = false) (h0 : x ≠ 0) (s : ByteArray) (i : Int) (w : World) :
    Calls Tryd.prog 8 #[.agg #[.int .i64 k, .bool b, .float .f64 x, .string s, .int .i64 i]] w fun e w' => e = .returned (.bool (goodV k b x s i)) ∧ Below w.heap.size w w' := by
  rw [strV_x (by omega) h0]
  clear h0
  have hx' : (FloatKind.f64.format.order x 0 != some .eq) = true := by rw [bne, hx]; rfl
  have hx2 : ¬ FloatKind.f64.format.order x 0 = some .eq := by simpa using hx
  rcases hk with rfl | rfl | rfl | rfl | rfl | rfl
  all_goals
    cases b
    all_goals
      go_enter Tryd.func8, Tryd.ntmps8
      go_wp2
      go_ret
      exact ⟨rfl, (Below.refl _ _).alloc (Nat.le_refl _) _⟩
set_option maxHeartbeats 2000000 in
theorem good_5 (b : Bool) (s : ByteArray) (i : Int) (w : World) :
    Calls Tryd.prog 8 #[.agg #[.int .i64 5, .bool b, .float .f64 0, .string s, .int .i64 i]] w fun e w' => e = .returned (.bool (goodV 5 b 0 s i)) ∧ Below w.heap.size w w' := by
  have a1 := o_00
  have a2 := o_i0
  have a3 := quo_pos
  cases b
  · by_cases hi : i = 0
    · subst hi
      by_cases hs : s.size ≤ 1048576
      · have HV := hide (fun w => refValid_any s (by omega) w)
        have hs' : (s.size : Int) ≤ 1048576 := by omega
        have hg : goodV 5 false 0 s 0 = vS s := by
          unfold goodV inG strV fitV vS
          simp [hs]
        rw [hg]
        clear hg
        go_enter Tryd.func8, Tryd.ntmps8
        go_wp2_with fail
        refine (minus_any 0 (by decide) _).mono ?_
        rintro e w1 ⟨rfl, rfl⟩
        have hm : mnV 0 = false := by decide
        rw [hm]
        go_wp2_with fail
        refine (unhide HV _).mono ?_
        rintro e w1 ⟨rfl, hb⟩
        go_wp2
        go_ret
        exact ⟨rfl, ((Below.refl _ _).alloc (Nat.le_refl _) _).trans (hb.mono (by simp))⟩
      · have hs' : ¬ (s.size : Int) ≤ 1048576 := by omega
        have hg : goodV 5 false 0 s 0 = false := by
          unfold goodV inG strV fitV
          simp [hs]
        rw [hg]
        clear hg
        go_enter Tryd.func8, Tryd.ntmps8
        go_wp2
        go_ret
        exact ⟨rfl, (Below.refl _ _).alloc (Nat.le_refl _) _⟩
    · have hg : goodV 5 false 0 s i = false := by
        unfold goodV inG strV
        simp [hi]
      rw [hg]
      clear hg
      go_enter Tryd.func8, Tryd.ntmps8
      go_wp2
      go_ret
      exact ⟨rfl, (Below.refl _ _).alloc (Nat.le_refl _) _⟩
  · have hg : goodV 5 true 0 s i = false := by
      unfold goodV inG strV
      simp
    rw [hg]
    clear hg
    go_enter Tryd.func8, Tryd.ntmps8
    go_wp2
    go_ret
    exact ⟨rfl, (Below.refl _ _).alloc (Nat.le_refl _) _⟩
/-- The reference's Good, of any fields. -/
theorem refGood_any (v : VV) (hx : v.x < 2 ^ 64) (w : World) : Calls Tryd.prog 8 #[v.agg] w fun e w' => e = .returned (.bool v.good) ∧ Below w.heap.size w w' := by
  obtain ⟨k, b, x, s, i⟩ := v
  have h0 := zero_order x hx
  unfold VV.agg VV.good
  dsimp only at *
  by_cases hk : k < 1 ∨ 7 < k
  · exact good_out k b x s i hk w
  · have hk' : k = 4 ∨ k = 5 ∨ k = 1 ∨ k = 2 ∨ k = 3 ∨ k = 6 ∨ k = 7 := by omega
    rcases hk' with rfl | hk'
    · exact good_4 b x s i w
    · by_cases h1 : x = 0
      · subst h1
        rcases hk' with rfl | hk'
        · exact good_5 b s i w
        · exact good_x k hk' b s i w
      · by_cases h2 : x = 9223372036854775808
        · subst h2
          exact good_m k (by omega) b s i w
        · exact good_y k (by omega) b x (by rw [h0]; simp [h1, h2]) h1 s i w
end Go.Proofs.YteohiamifoonkaaDoor
