import Derived.Test.YtpbdidnphkkenaaGreatDoorQg
set_option linter.all false
namespace Go.Proofs.YtpbdidnphkkenaaGreatDoor
section
open Go Go.Proofs Go.RowKit
theorem hsym {r s : Bool} {p : Sem Next} (h : r = s) (hy : ∀ w, p.run Tryz.prog w = .ok (.value (.bool r)) w) : ∀ w, p.run Tryz.prog w = .ok (.value (.bool s)) w := h ▸ hy
def goodK (k : KK) : Bool := (kVal k.s k.n).good
theorem goodK_eq (k : KK) : goodK k = if k.n = 0 then decide (k.s.size ≤ 1048576) && vS k.s else decide (1 ≤ k.n) && decide (k.n ≤ 65536) && k.s.toList.isEmpty := by
  unfold goodK kVal
  by_cases h : k.n = 0
  · rw [if_pos h, if_pos h]
    simp [VV.good, goodV, inG, strV, fitV, vS]
  · rw [if_neg h, if_neg h]
    simp [VV.good, goodV, inG, strV]
    cases k.s.toList.isEmpty <;> simp
theorem goodK_size {k : KK} (h : goodK k = true) : k.s.size ≤ 1048576 := good_size h
theorem goodK_n {k : KK} (h : goodK k = true) : 0 ≤ k.n ∧ k.n ≤ 65536 := by
  rw [goodK_eq] at h
  by_cases hn : k.n = 0
  · omega
  · rw [if_neg hn] at h
    simp at h
    omega
set_option maxHeartbeats 20000000 in
set_option maxRecDepth 100000 in
theorem refGoodK (k : KK) (w : World) : Calls Tryz.prog 35 #[k.agg] w fun e w' => e = .returned (.bool (goodK k)) ∧ Below w.heap.size w w' := by
  have LL := hide (Kq.of1 w k)
  rw [goodK_eq]
  by_cases hn : k.n = 0
  · rw [if_pos hn]
    have hn2 : (k.n != 0) = false := by simp [hn]
    clear hn
    by_cases hz : k.s.size ≤ 1048576
    · have HV := hide (refValid_any k.s (by omega))
      have hz2 : (k.s.size : Int) ≤ 1048576 := by omega
      rw [decide_eq_true hz, Bool.true_and]
      generalize vS k.s = vs at *
      have hq0 : k.agg = .agg #[.string k.s, .int .i64 k.n] := rfl
      rw [hq0]
      clear hq0
      go_enter Tryz.func35, Tryz.ntmps35
      go_wp2_with (first | go_skip | ((with_reducible apply load23); (case ho => rfl); (case hw => rfl); (case hx => rfl); (case hc => first | exact (unhide LL).get 0 rfl); simp only [Act.put, nzA, nzB, nzC]) | ((with_reducible apply load9); (case ho => rfl); (case hw => rfl); (case hx => rfl); (case hc => first | exact (unhide LL).get 0 rfl); simp only [Act.put, nzA, nzB, nzC]) | ((with_reducible apply load3); (case ho => rfl); (case hw => rfl); (case hx => rfl); (case hc => first | exact (unhide LL).get 0 rfl); simp only [Act.put, nzA, nzB, nzC]))
      refine (unhide HV _).mono ?_
      rintro _ w1 ⟨rfl, hb⟩
      replace LL := hide ((unhide LL).on hb)
      clear hb
      go_wp2_with (first | go_skip | ((with_reducible apply load23); (case ho => rfl); (case hw => rfl); (case hx => rfl); (case hc => first | exact (unhide LL).get 0 rfl); simp only [Act.put, nzA, nzB, nzC]) | ((with_reducible apply load9); (case ho => rfl); (case hw => rfl); (case hx => rfl); (case hc => first | exact (unhide LL).get 0 rfl); simp only [Act.put, nzA, nzB, nzC]) | ((with_reducible apply load3); (case ho => rfl); (case hw => rfl); (case hx => rfl); (case hc => first | exact (unhide LL).get 0 rfl); simp only [Act.put, nzA, nzB, nzC]))
      go_ret
      exact ⟨rfl, (unhide LL).below⟩
    · have hz2 : ¬ (k.s.size : Int) ≤ 1048576 := by omega
      rw [decide_eq_false hz, Bool.false_and]
      have hq0 : k.agg = .agg #[.string k.s, .int .i64 k.n] := rfl
      rw [hq0]
      clear hq0
      go_enter Tryz.func35, Tryz.ntmps35
      go_wp2_with (first | go_skip | ((with_reducible apply load23); (case ho => rfl); (case hw => rfl); (case hx => rfl); (case hc => first | exact (unhide LL).get 0 rfl); simp only [Act.put, nzA, nzB, nzC]) | ((with_reducible apply load9); (case ho => rfl); (case hw => rfl); (case hx => rfl); (case hc => first | exact (unhide LL).get 0 rfl); simp only [Act.put, nzA, nzB, nzC]) | ((with_reducible apply load3); (case ho => rfl); (case hw => rfl); (case hx => rfl); (case hc => first | exact (unhide LL).get 0 rfl); simp only [Act.put, nzA, nzB, nzC]))
      go_ret
      exact ⟨rfl, (unhide LL).below⟩
  · rw [if_neg hn]
    have hn2 : (k.n != 0) = true := by simp [hn]
    have hn3 : (k.n == 0) = false := by simp [hn]
    clear hn
    by_cases h1 : 1 ≤ k.n
    · rw [decide_eq_true h1, Bool.true_and]
      by_cases h2 : k.n ≤ 65536
      · rw [decide_eq_true h2, Bool.true_and]
        have he : (k.s.toList == []) = k.s.toList.isEmpty := by cases k.s.toList <;> rfl
        generalize hem : k.s.toList.isEmpty = em at *
        have hq0 : k.agg = .agg #[.string k.s, .int .i64 k.n] := rfl
        rw [hq0]
        clear hq0
        go_enter Tryz.func35, Tryz.ntmps35
        go_wp2_with (first | go_skip | ((with_reducible apply load23); (case ho => rfl); (case hw => rfl); (case hx => rfl); (case hc => first | exact (unhide LL).get 0 rfl); simp only [Act.put, nzA, nzB, nzC]) | ((with_reducible apply load9); (case ho => rfl); (case hw => rfl); (case hx => rfl); (case hc => first | exact (unhide LL).get 0 rfl); simp only [Act.put, nzA, nzB, nzC]) | ((with_reducible apply load3); (case ho => rfl); (case hw => rfl); (case hx => rfl); (case hc => first | exact (unhide LL).get 0 rfl); simp only [Act.put, nzA, nzB, nzC]))
        go_ret
        exact ⟨by simp [he], (unhide LL).below⟩
      · rw [decide_eq_false h2, Bool.false_and]
        have hq0 : k.agg = .agg #[.string k.s, .int .i64 k.n] := rfl
        rw [hq0]
        clear hq0
        go_enter Tryz.func35, Tryz.ntmps35
        go_wp2_with (first | go_skip | ((with_reducible apply load23); (case ho => rfl); (case hw => rfl); (case hx => rfl); (case hc => first | exact (unhide LL).get 0 rfl); simp only [Act.put, nzA, nzB, nzC]) | ((with_reducible apply load9); (case ho => rfl); (case hw => rfl); (case hx => rfl); (case hc => first | exact (unhide LL).get 0 rfl); simp only [Act.put, nzA, nzB, nzC]) | ((with_reducible apply load3); (case ho => rfl); (case hw => rfl); (case hx => rfl); (case hc => first | exact (unhide LL).get 0 rfl); simp only [Act.put, nzA, nzB, nzC]))
        go_ret
        exact ⟨rfl, (unhide LL).below⟩
    · rw [decide_eq_false h1, Bool.false_and, Bool.false_and]
      have hq0 : k.agg = .agg #[.string k.s, .int .i64 k.n] := rfl
      rw [hq0]
      clear hq0
      go_enter Tryz.func35, Tryz.ntmps35
      go_wp2_with (first | go_skip | ((with_reducible apply load23); (case ho => rfl); (case hw => rfl); (case hx => rfl); (case hc => first | exact (unhide LL).get 0 rfl); simp only [Act.put, nzA, nzB, nzC]) | ((with_reducible apply load9); (case ho => rfl); (case hw => rfl); (case hx => rfl); (case hc => first | exact (unhide LL).get 0 rfl); simp only [Act.put, nzA, nzB, nzC]) | ((with_reducible apply load3); (case ho => rfl); (case hw => rfl); (case hx => rfl); (case hc => first | exact (unhide LL).get 0 rfl); simp only [Act.put, nzA, nzB, nzC]))
      go_ret
      exact ⟨rfl, (unhide LL).below⟩

theorem subI (x y : Int) (hx : -1099511627776 ≤ x ∧ x ≤ 1099511627776) (hy : -1099511627776 ≤ y ∧ y ≤ 1099511627776) (w : World) : (binOp .sub 3 (.int .i64 x) (.int .i64 y)).run Tryz.prog w = .ok (.int .i64 (x - y)) w := by
  have e : IntKind.i64.wrap (x - y) = x - y := by
    rw [IntKind.wrap_i64]
    omega
  simp [binOp, go_sem, e]
theorem kd_range (s : ByteArray) (n : Int) : 0 ≤ kdOf s n ∧ kdOf s n ≤ 2 := by
  unfold kdOf
  split
  · split <;> omega
  · omega
theorem sgn_cmp (x y : Int) : (if x - y < 0 then (-1 : Int) else if 0 < x - y then 1 else 0) = Lib.compareInt x y := by
  unfold Lib.compareInt
  by_cases h : x < y
  · rw [if_pos (by omega), if_pos h]
  · rw [if_neg (by omega), if_neg h]
    by_cases h2 : x > y
    · rw [if_pos (by omega), if_pos h2]
    · rw [if_neg (by omega), if_neg h2]
theorem sgn_nat (x y : Nat) : (if (x : Int) - (y : Int) < 0 then (-1 : Int) else if 0 < (x : Int) - (y : Int) then 1 else 0) = cpN x y := by
  unfold cpN
  by_cases h : x < y
  · rw [if_pos (by omega), if_pos h]
  · rw [if_neg (by omega), if_neg h]
    by_cases h2 : y < x
    · rw [if_pos (by omega), if_pos h2]
    · rw [if_neg (by omega), if_neg h2]
theorem kn_le (s : ByteArray) (n : Int) : knOf s n ≤ 4294967294 := by
  unfold knOf
  split
  · cases h : ixOf (nums s) with
    | none => simp
    | some m => simpa using ixOf_le _ _ h
  · omega
set_option maxHeartbeats 20000000 in
set_option maxRecDepth 100000 in
theorem refCmp_ne (a b : KK) (ha : a.s.size ≤ 1048576) (hb : b.s.size ≤ 1048576) (na : 0 ≤ a.n ∧ a.n ≤ 65536) (nb : 0 ≤ b.n ∧ b.n ≤ 65536) (hk : ¬ kdOf a.s a.n = kdOf b.s b.n) (w : World) : Calls Tryz.prog 53 #[a.agg, b.agg] w fun e w' => e = .returned (.int .i64 (cmpK a.s a.n b.s b.n)) ∧ Below w.heap.size w w' := by
  have HA := hide (rank15 a.s a.n (by omega))
  have HB := hide (rank15 b.s b.n (by omega))
  rw [agg_key] at HA HB
  have LL := hide (Kq.of2 w a b)
  have hra := kd_range a.s a.n
  have hrb := kd_range b.s b.n
  unfold cmpK
  rw [if_neg hk]
  generalize kdOf a.s a.n = ka at *
  generalize kdOf b.s b.n = kb at *
  have hne : (ka != kb) = true := by simpa using hk
  have hsub := fun w => subI ka kb (by omega) (by omega) w
  have HSg : Hid (∀ w, Calls Tryz.prog 64 #[.int .i64 (ka - kb)] w fun e w' => e = .returned (.int .i64 (Lib.compareInt ka kb)) ∧ Below w.heap.size w w') := hide (fun w => (sign16 (ka - kb) w).mono (fun e w' h => ⟨by rw [← sgn_cmp]; exact h.1, h.2 ▸ Below.refl _ _⟩))
  have hq0 : a.agg = .agg #[.string a.s, .int .i64 a.n] := rfl
  have hq1 : b.agg = .agg #[.string b.s, .int .i64 b.n] := rfl
  rw [hq0, hq1]
  clear hq0 hq1
  go_enter Tryz.func53, Tryz.ntmps53
  go_wp2_with fail
  refine wp_region_held_drew (P := Tryz.prog) (S := (fun X => Kq w X [(w.heap.size, a), (w.heap.size + 1, b)])) (by kernel_rfl) (Kq.drew (unhide LL)) (fun hS0 => ?_)
  refine gload 0 (some 11) (x := .tmp 2) (b := w.heap.size) (p := 0) (d := a) rfl (by kernel_rfl) (by kernel_rfl) (by kernel_rfl) (fun _ _ _ h => h) (by kernel_rfl) (by kernel_rfl) (by kernel_rfl) (by kernel_rfl) (fun X hX => KLies.range (hX.get 0 rfl)) hS0 ?_
  simp only [Act.put, nzA, nzB, nzC]
  refine gload 2 (some 13) (x := .tmp 3) (b := w.heap.size + 1) (p := 0) (d := b) rfl (by kernel_rfl) (by kernel_rfl) (by kernel_rfl) (fun _ _ _ h => h) (by kernel_rfl) (by kernel_rfl) (by kernel_rfl) (by kernel_rfl) (fun X hX => KLies.range (hX.get 1 rfl)) hS0 ?_
  simp only [Act.put, nzA, nzB, nzC]
  refine wpAnyH_ready (rs := [1]) (by kernel_rfl) (by simp) (gcall 1 (some 12) rfl (by kernel_rfl) (by kernel_rfl) (by kernel_rfl) (unhide HA _) (fun X hX => hS0.on hX) ?_ AllReadyH.nil)
  intro X hX
  replace hS0 := hS0.on hX
  clear hX
  simp only [Act.put, nzA, nzB, nzC]
  refine wpAnyH_ready (rs := [3]) (by kernel_rfl) (by simp) (gcall 3 (some 14) rfl (by kernel_rfl) (by kernel_rfl) (by kernel_rfl) (unhide HB _) (fun X hX => hS0.on hX) ?_ AllReadyH.nil)
  intro X hX
  replace hS0 := hS0.on hX
  clear hX
  simp only [Act.put, nzA, nzB, nzC]
  refine gpure 4 (some 15) (.bool true) rfl (by kernel_rfl) (by kernel_rfl) (by kernel_rfl) (fun _ _ _ h => h) (by kernel_rfl) (by kernel_rfl) (hsym (r := (ka != kb)) hne (fun _ => by kernel_rfl)) hS0 ?_
  simp only [Act.put, nzA, nzB, nzC]
  refine wpAnyH_done (by kernel_rfl) ?_ _
  try simp only [Act.put, nzA, nzB, nzC]
  clear LL
  have LL := hide hS0
  clear hS0
  go_wp2_with fail
  refine wp_region_held_drew (P := Tryz.prog) (S := (fun X => Kq w X [(w.heap.size, a), (w.heap.size + 1, b)])) (by kernel_rfl) (Kq.drew (unhide LL)) (fun hS0 => ?_)
  refine gload 0 (some 16) (x := .tmp 2) (b := w.heap.size) (p := 0) (d := a) rfl (by kernel_rfl) (by kernel_rfl) (by kernel_rfl) (fun _ _ _ h => h) (by kernel_rfl) (by kernel_rfl) (by kernel_rfl) (by kernel_rfl) (fun X hX => KLies.range (hX.get 0 rfl)) hS0 ?_
  simp only [Act.put, nzA, nzB, nzC]
  refine gload 2 (some 18) (x := .tmp 3) (b := w.heap.size + 1) (p := 0) (d := b) rfl (by kernel_rfl) (by kernel_rfl) (by kernel_rfl) (fun _ _ _ h => h) (by kernel_rfl) (by kernel_rfl) (by kernel_rfl) (by kernel_rfl) (fun X hX => KLies.range (hX.get 1 rfl)) hS0 ?_
  simp only [Act.put, nzA, nzB, nzC]
  refine wpAnyH_ready (rs := [1]) (by kernel_rfl) (by simp) (gcall 1 (some 17) rfl (by kernel_rfl) (by kernel_rfl) (by kernel_rfl) (unhide HA _) (fun X hX => hS0.on hX) ?_ AllReadyH.nil)
  intro X hX
  replace hS0 := hS0.on hX
  clear hX
  simp only [Act.put, nzA, nzB, nzC]
  refine wpAnyH_ready (rs := [3]) (by kernel_rfl) (by simp) (gcall 3 (some 19) rfl (by kernel_rfl) (by kernel_rfl) (by kernel_rfl) (unhide HB _) (fun X hX => hS0.on hX) ?_ AllReadyH.nil)
  intro X hX
  replace hS0 := hS0.on hX
  clear hX
  simp only [Act.put, nzA, nzB, nzC]
  refine gbin 4 (some 20) (b := .sub) (t := 3) (t2 := 3) (x := .tmp 17) (y := .tmp 19) (vx := .int .i64 ka) (vy := .int .i64 kb) (.int .i64 (ka - kb)) rfl (by kernel_rfl) (by kernel_rfl) (by kernel_rfl) (fun _ _ _ h => h) (by kernel_rfl) (by kernel_rfl) (by kernel_rfl) (by kernel_rfl) (by kernel_rfl) hsub (fun _ => by kernel_rfl) hS0 ?_
  simp only [Act.put, nzA, nzB, nzC]
  refine wpAnyH_ready (rs := [5]) (by kernel_rfl) (by simp) (gcall 5 (some 21) rfl (by kernel_rfl) (by kernel_rfl) (by kernel_rfl) (unhide HSg _) (fun X hX => hS0.on hX) ?_ AllReadyH.nil)
  intro X hX
  replace hS0 := hS0.on hX
  clear hX
  simp only [Act.put, nzA, nzB, nzC]
  refine gpure 6 (some 4) (.int .i64 (Lib.compareInt ka kb)) rfl (by kernel_rfl) (by kernel_rfl) (by kernel_rfl) (fun _ _ _ h => h) (by kernel_rfl) (by kernel_rfl) (fun _ => by kernel_rfl) hS0 ?_
  simp only [Act.put, nzA, nzB, nzC]
  refine wpAnyH_done (by kernel_rfl) ?_ _
  try simp only [Act.put, nzA, nzB, nzC]
  clear LL
  have LL := hide hS0
  clear hS0
  go_wp2_with fail
  go_ret
  exact ⟨rfl, (unhide LL).below⟩
set_option maxHeartbeats 20000000 in
set_option maxRecDepth 100000 in
theorem refCmp_0 (a b : KK) (ha : a.s.size ≤ 1048576) (hb : b.s.size ≤ 1048576) (na : 0 ≤ a.n ∧ a.n ≤ 65536) (nb : 0 ≤ b.n ∧ b.n ≤ 65536) (hk : kdOf a.s a.n = kdOf b.s b.n) (hv : kdOf a.s a.n = 0) (w : World) : Calls Tryz.prog 53 #[a.agg, b.agg] w fun e w' => e = .returned (.int .i64 (cmpK a.s a.n b.s b.n)) ∧ Below w.heap.size w w' := by
  have HA := hide (rank15 a.s a.n (by omega))
  have HB := hide (rank15 b.s b.n (by omega))
  rw [agg_key] at HA HB
  have LL := hide (Kq.of2 w a b)
  have e2 : kdOf b.s b.n = 0 := hk ▸ hv
  unfold cmpK
  rw [if_pos hk, hv]
  rw [hv] at HA
  rw [e2] at HB
  have hne : ((0 : Int) != 0) = false := rfl
  rw [if_pos rfl]
  have hna : a.n = 0 := by
    unfold kdOf at hv
    split at hv
    · assumption
    · omega
  have hnb : b.n = 0 := by
    unfold kdOf at e2
    split at e2
    · assumption
    · omega
  have HI := hide (index17 a.s (by omega))
  have HJ := hide (index17 b.s (by omega))
  have hla := kn_le a.s a.n
  have hlb := kn_le b.s b.n
  have ea : (ixOf (nums a.s)).getD 0 = knOf a.s a.n := by unfold knOf; rw [if_pos hna]
  have eb : (ixOf (nums b.s)).getD 0 = knOf b.s b.n := by unfold knOf; rw [if_pos hnb]
  rw [ea] at HI
  rw [eb] at HJ
  clear hk hv e2 ea eb hna hnb
  generalize knOf a.s a.n = x at *
  generalize knOf b.s b.n = y at *
  generalize (ixOf (nums a.s)).isSome = ia at *
  generalize (ixOf (nums b.s)).isSome = ib at *
  have wx : IntKind.i64.wrap (x : Int) = x := by rw [IntKind.wrap_i64]; omega
  have wy : IntKind.i64.wrap (y : Int) = y := by rw [IntKind.wrap_i64]; omega
  have wd : IntKind.i64.wrap ((x : Int) - y) = (x : Int) - y := by rw [IntKind.wrap_i64]; omega
  have HSg := hide (sign16 ((x : Int) - y))
  rw [sgn_nat] at HSg
  have hq0 : a.agg = .agg #[.string a.s, .int .i64 a.n] := rfl
  have hq1 : b.agg = .agg #[.string b.s, .int .i64 b.n] := rfl
  rw [hq0, hq1]
  clear hq0 hq1
  go_enter Tryz.func53, Tryz.ntmps53
  go_wp2_with fail
  refine wp_region_held_drew (P := Tryz.prog) (S := (fun X => Kq w X [(w.heap.size, a), (w.heap.size + 1, b)])) (by kernel_rfl) (Kq.drew (unhide LL)) (fun hS0 => ?_)
  refine gload 0 (some 11) (x := .tmp 2) (b := w.heap.size) (p := 0) (d := a) rfl (by kernel_rfl) (by kernel_rfl) (by kernel_rfl) (fun _ _ _ h => h) (by kernel_rfl) (by kernel_rfl) (by kernel_rfl) (by kernel_rfl) (fun X hX => KLies.range (hX.get 0 rfl)) hS0 ?_
  simp only [Act.put, nzA, nzB, nzC]
  refine gload 2 (some 13) (x := .tmp 3) (b := w.heap.size + 1) (p := 0) (d := b) rfl (by kernel_rfl) (by kernel_rfl) (by kernel_rfl) (fun _ _ _ h => h) (by kernel_rfl) (by kernel_rfl) (by kernel_rfl) (by kernel_rfl) (fun X hX => KLies.range (hX.get 1 rfl)) hS0 ?_
  simp only [Act.put, nzA, nzB, nzC]
  refine wpAnyH_ready (rs := [1]) (by kernel_rfl) (by simp) (gcall 1 (some 12) rfl (by kernel_rfl) (by kernel_rfl) (by kernel_rfl) (unhide HA _) (fun X hX => hS0.on hX) ?_ AllReadyH.nil)
  intro X hX
  replace hS0 := hS0.on hX
  clear hX
  simp only [Act.put, nzA, nzB, nzC]
  refine wpAnyH_ready (rs := [3]) (by kernel_rfl) (by simp) (gcall 3 (some 14) rfl (by kernel_rfl) (by kernel_rfl) (by kernel_rfl) (unhide HB _) (fun X hX => hS0.on hX) ?_ AllReadyH.nil)
  intro X hX
  replace hS0 := hS0.on hX
  clear hX
  simp only [Act.put, nzA, nzB, nzC]
  refine gpure 4 (some 15) (.bool false) rfl (by kernel_rfl) (by kernel_rfl) (by kernel_rfl) (fun _ _ _ h => h) (by kernel_rfl) (by kernel_rfl) (hsym (r := ((0 : Int) != 0)) hne (fun _ => by kernel_rfl)) hS0 ?_
  simp only [Act.put, nzA, nzB, nzC]
  refine wpAnyH_done (by kernel_rfl) ?_ _
  try simp only [Act.put, nzA, nzB, nzC]
  clear LL
  have LL := hide hS0
  clear hS0
  go_wp2_with (first | go_skip | ((with_reducible apply load23); (case ho => rfl); (case hw => rfl); (case hx => rfl); (case hc => first | exact (unhide LL).get 0 rfl | exact (unhide LL).get 1 rfl); simp only [Act.put, nzA, nzB, nzC]) | ((with_reducible apply load9); (case ho => rfl); (case hw => rfl); (case hx => rfl); (case hc => first | exact (unhide LL).get 0 rfl | exact (unhide LL).get 1 rfl); simp only [Act.put, nzA, nzB, nzC]) | ((with_reducible apply load3); (case ho => rfl); (case hw => rfl); (case hx => rfl); (case hc => first | exact (unhide LL).get 0 rfl | exact (unhide LL).get 1 rfl); simp only [Act.put, nzA, nzB, nzC]))
  refine (unhide HA _).mono ?_
  rintro _ w2 ⟨rfl, hb⟩
  replace LL := hide ((unhide LL).on hb)
  clear hb
  go_wp2_with (first | go_skip | ((with_reducible apply load23); (case ho => rfl); (case hw => rfl); (case hx => rfl); (case hc => first | exact (unhide LL).get 0 rfl | exact (unhide LL).get 1 rfl); simp only [Act.put, nzA, nzB, nzC]) | ((with_reducible apply load9); (case ho => rfl); (case hw => rfl); (case hx => rfl); (case hc => first | exact (unhide LL).get 0 rfl | exact (unhide LL).get 1 rfl); simp only [Act.put, nzA, nzB, nzC]) | ((with_reducible apply load3); (case ho => rfl); (case hw => rfl); (case hx => rfl); (case hc => first | exact (unhide LL).get 0 rfl | exact (unhide LL).get 1 rfl); simp only [Act.put, nzA, nzB, nzC]))
  refine (unhide HI _).mono ?_
  rintro _ _ ⟨rfl, rfl⟩
  go_wp2_with (first | go_skip | ((with_reducible apply load23); (case ho => rfl); (case hw => rfl); (case hx => rfl); (case hc => first | exact (unhide LL).get 0 rfl | exact (unhide LL).get 1 rfl); simp only [Act.put, nzA, nzB, nzC]) | ((with_reducible apply load9); (case ho => rfl); (case hw => rfl); (case hx => rfl); (case hc => first | exact (unhide LL).get 0 rfl | exact (unhide LL).get 1 rfl); simp only [Act.put, nzA, nzB, nzC]) | ((with_reducible apply load3); (case ho => rfl); (case hw => rfl); (case hx => rfl); (case hc => first | exact (unhide LL).get 0 rfl | exact (unhide LL).get 1 rfl); simp only [Act.put, nzA, nzB, nzC]))
  refine (unhide HJ _).mono ?_
  rintro _ _ ⟨rfl, rfl⟩
  go_wp2_with (first | go_skip | ((with_reducible apply load23); (case ho => rfl); (case hw => rfl); (case hx => rfl); (case hc => first | exact (unhide LL).get 0 rfl | exact (unhide LL).get 1 rfl); simp only [Act.put, nzA, nzB, nzC]) | ((with_reducible apply load9); (case ho => rfl); (case hw => rfl); (case hx => rfl); (case hc => first | exact (unhide LL).get 0 rfl | exact (unhide LL).get 1 rfl); simp only [Act.put, nzA, nzB, nzC]) | ((with_reducible apply load3); (case ho => rfl); (case hw => rfl); (case hx => rfl); (case hc => first | exact (unhide LL).get 0 rfl | exact (unhide LL).get 1 rfl); simp only [Act.put, nzA, nzB, nzC]))
  refine (unhide HSg _).mono ?_
  rintro _ _ ⟨rfl, rfl⟩
  go_wp2_with (first | go_skip | ((with_reducible apply load23); (case ho => rfl); (case hw => rfl); (case hx => rfl); (case hc => first | exact (unhide LL).get 0 rfl | exact (unhide LL).get 1 rfl); simp only [Act.put, nzA, nzB, nzC]) | ((with_reducible apply load9); (case ho => rfl); (case hw => rfl); (case hx => rfl); (case hc => first | exact (unhide LL).get 0 rfl | exact (unhide LL).get 1 rfl); simp only [Act.put, nzA, nzB, nzC]) | ((with_reducible apply load3); (case ho => rfl); (case hw => rfl); (case hx => rfl); (case hc => first | exact (unhide LL).get 0 rfl | exact (unhide LL).get 1 rfl); simp only [Act.put, nzA, nzB, nzC]))
  go_ret
  exact ⟨rfl, (unhide LL).below⟩
set_option maxHeartbeats 20000000 in
set_option maxRecDepth 100000 in
theorem refCmp_1 (a b : KK) (ha : a.s.size ≤ 1048576) (hb : b.s.size ≤ 1048576) (na : 0 ≤ a.n ∧ a.n ≤ 65536) (nb : 0 ≤ b.n ∧ b.n ≤ 65536) (hk : kdOf a.s a.n = kdOf b.s b.n) (hv : kdOf a.s a.n = 1) (w : World) : Calls Tryz.prog 53 #[a.agg, b.agg] w fun e w' => e = .returned (.int .i64 (cmpK a.s a.n b.s b.n)) ∧ Below w.heap.size w w' := by
  have HA := hide (rank15 a.s a.n (by omega))
  have HB := hide (rank15 b.s b.n (by omega))
  rw [agg_key] at HA HB
  have LL := hide (Kq.of2 w a b)
  have e2 : kdOf b.s b.n = 1 := hk ▸ hv
  unfold cmpK
  rw [if_pos hk, hv]
  rw [hv] at HA
  rw [e2] at HB
  have hne : ((1 : Int) != 1) = false := rfl
  rw [if_neg (by decide), if_pos rfl]
  have HC := hide (refCompare_any a.s b.s (by omega) (by omega))
  clear hk hv e2
  have hq0 : a.agg = .agg #[.string a.s, .int .i64 a.n] := rfl
  have hq1 : b.agg = .agg #[.string b.s, .int .i64 b.n] := rfl
  rw [hq0, hq1]
  clear hq0 hq1
  go_enter Tryz.func53, Tryz.ntmps53
  go_wp2_with fail
  refine wp_region_held_drew (P := Tryz.prog) (S := (fun X => Kq w X [(w.heap.size, a), (w.heap.size + 1, b)])) (by kernel_rfl) (Kq.drew (unhide LL)) (fun hS0 => ?_)
  refine gload 0 (some 11) (x := .tmp 2) (b := w.heap.size) (p := 0) (d := a) rfl (by kernel_rfl) (by kernel_rfl) (by kernel_rfl) (fun _ _ _ h => h) (by kernel_rfl) (by kernel_rfl) (by kernel_rfl) (by kernel_rfl) (fun X hX => KLies.range (hX.get 0 rfl)) hS0 ?_
  simp only [Act.put, nzA, nzB, nzC]
  refine gload 2 (some 13) (x := .tmp 3) (b := w.heap.size + 1) (p := 0) (d := b) rfl (by kernel_rfl) (by kernel_rfl) (by kernel_rfl) (fun _ _ _ h => h) (by kernel_rfl) (by kernel_rfl) (by kernel_rfl) (by kernel_rfl) (fun X hX => KLies.range (hX.get 1 rfl)) hS0 ?_
  simp only [Act.put, nzA, nzB, nzC]
  refine wpAnyH_ready (rs := [1]) (by kernel_rfl) (by simp) (gcall 1 (some 12) rfl (by kernel_rfl) (by kernel_rfl) (by kernel_rfl) (unhide HA _) (fun X hX => hS0.on hX) ?_ AllReadyH.nil)
  intro X hX
  replace hS0 := hS0.on hX
  clear hX
  simp only [Act.put, nzA, nzB, nzC]
  refine wpAnyH_ready (rs := [3]) (by kernel_rfl) (by simp) (gcall 3 (some 14) rfl (by kernel_rfl) (by kernel_rfl) (by kernel_rfl) (unhide HB _) (fun X hX => hS0.on hX) ?_ AllReadyH.nil)
  intro X hX
  replace hS0 := hS0.on hX
  clear hX
  simp only [Act.put, nzA, nzB, nzC]
  refine gpure 4 (some 15) (.bool false) rfl (by kernel_rfl) (by kernel_rfl) (by kernel_rfl) (fun _ _ _ h => h) (by kernel_rfl) (by kernel_rfl) (hsym (r := ((1 : Int) != 1)) hne (fun _ => by kernel_rfl)) hS0 ?_
  simp only [Act.put, nzA, nzB, nzC]
  refine wpAnyH_done (by kernel_rfl) ?_ _
  try simp only [Act.put, nzA, nzB, nzC]
  clear LL
  have LL := hide hS0
  clear hS0
  go_wp2_with (first | go_skip | ((with_reducible apply load23); (case ho => rfl); (case hw => rfl); (case hx => rfl); (case hc => first | exact (unhide LL).get 0 rfl | exact (unhide LL).get 1 rfl); simp only [Act.put, nzA, nzB, nzC]) | ((with_reducible apply load9); (case ho => rfl); (case hw => rfl); (case hx => rfl); (case hc => first | exact (unhide LL).get 0 rfl | exact (unhide LL).get 1 rfl); simp only [Act.put, nzA, nzB, nzC]) | ((with_reducible apply load3); (case ho => rfl); (case hw => rfl); (case hx => rfl); (case hc => first | exact (unhide LL).get 0 rfl | exact (unhide LL).get 1 rfl); simp only [Act.put, nzA, nzB, nzC]))
  refine (unhide HA _).mono ?_
  rintro _ w3 ⟨rfl, hb⟩
  replace LL := hide ((unhide LL).on hb)
  clear hb
  go_wp2_with (first | go_skip | ((with_reducible apply load23); (case ho => rfl); (case hw => rfl); (case hx => rfl); (case hc => first | exact (unhide LL).get 0 rfl | exact (unhide LL).get 1 rfl); simp only [Act.put, nzA, nzB, nzC]) | ((with_reducible apply load9); (case ho => rfl); (case hw => rfl); (case hx => rfl); (case hc => first | exact (unhide LL).get 0 rfl | exact (unhide LL).get 1 rfl); simp only [Act.put, nzA, nzB, nzC]) | ((with_reducible apply load3); (case ho => rfl); (case hw => rfl); (case hx => rfl); (case hc => first | exact (unhide LL).get 0 rfl | exact (unhide LL).get 1 rfl); simp only [Act.put, nzA, nzB, nzC]))
  refine (unhide HC _).mono ?_
  rintro _ w4 ⟨rfl, hb⟩
  replace LL := hide ((unhide LL).on hb)
  clear hb
  go_wp2_with (first | go_skip | ((with_reducible apply load23); (case ho => rfl); (case hw => rfl); (case hx => rfl); (case hc => first | exact (unhide LL).get 0 rfl | exact (unhide LL).get 1 rfl); simp only [Act.put, nzA, nzB, nzC]) | ((with_reducible apply load9); (case ho => rfl); (case hw => rfl); (case hx => rfl); (case hc => first | exact (unhide LL).get 0 rfl | exact (unhide LL).get 1 rfl); simp only [Act.put, nzA, nzB, nzC]) | ((with_reducible apply load3); (case ho => rfl); (case hw => rfl); (case hx => rfl); (case hc => first | exact (unhide LL).get 0 rfl | exact (unhide LL).get 1 rfl); simp only [Act.put, nzA, nzB, nzC]))
  go_ret
  exact ⟨rfl, (unhide LL).below⟩
set_option maxHeartbeats 20000000 in
set_option maxRecDepth 100000 in
theorem refCmp_2 (a b : KK) (ha : a.s.size ≤ 1048576) (hb : b.s.size ≤ 1048576) (na : 0 ≤ a.n ∧ a.n ≤ 65536) (nb : 0 ≤ b.n ∧ b.n ≤ 65536) (hk : kdOf a.s a.n = kdOf b.s b.n) (hv : kdOf a.s a.n = 2) (w : World) : Calls Tryz.prog 53 #[a.agg, b.agg] w fun e w' => e = .returned (.int .i64 (cmpK a.s a.n b.s b.n)) ∧ Below w.heap.size w w' := by
  have HA := hide (rank15 a.s a.n (by omega))
  have HB := hide (rank15 b.s b.n (by omega))
  rw [agg_key] at HA HB
  have LL := hide (Kq.of2 w a b)
  have e2 : kdOf b.s b.n = 2 := hk ▸ hv
  unfold cmpK
  rw [if_pos hk, hv]
  rw [hv] at HA
  rw [e2] at HB
  have hne : ((2 : Int) != 2) = false := rfl
  rw [if_neg (by decide), if_neg (by decide)]
  have wd : IntKind.i64.wrap (a.n - b.n) = a.n - b.n := by rw [IntKind.wrap_i64]; omega
  have HSg := hide (sign16 (a.n - b.n))
  rw [sgn_cmp] at HSg
  clear hk hv e2
  have hq0 : a.agg = .agg #[.string a.s, .int .i64 a.n] := rfl
  have hq1 : b.agg = .agg #[.string b.s, .int .i64 b.n] := rfl
  rw [hq0, hq1]
  clear hq0 hq1
  go_enter Tryz.func53, Tryz.ntmps53
  go_wp2_with fail
  refine wp_region_held_drew (P := Tryz.prog) (S := (fun X => Kq w X [(w.heap.size, a), (w.heap.size + 1, b)])) (by kernel_rfl) (Kq.drew (unhide LL)) (fun hS0 => ?_)
  refine gload 0 (some 11) (x := .tmp 2) (b := w.heap.size) (p := 0) (d := a) rfl (by kernel_rfl) (by kernel_rfl) (by kernel_rfl) (fun _ _ _ h => h) (by kernel_rfl) (by kernel_rfl) (by kernel_rfl) (by kernel_rfl) (fun X hX => KLies.range (hX.get 0 rfl)) hS0 ?_
  simp only [Act.put, nzA, nzB, nzC]
  refine gload 2 (some 13) (x := .tmp 3) (b := w.heap.size + 1) (p := 0) (d := b) rfl (by kernel_rfl) (by kernel_rfl) (by kernel_rfl) (fun _ _ _ h => h) (by kernel_rfl) (by kernel_rfl) (by kernel_rfl) (by kernel_rfl) (fun X hX => KLies.range (hX.get 1 rfl)) hS0 ?_
  simp only [Act.put, nzA, nzB, nzC]
  refine wpAnyH_ready (rs := [1]) (by kernel_rfl) (by simp) (gcall 1 (some 12) rfl (by kernel_rfl) (by kernel_rfl) (by kernel_rfl) (unhide HA _) (fun X hX => hS0.on hX) ?_ AllReadyH.nil)
  intro X hX
  replace hS0 := hS0.on hX
  clear hX
  simp only [Act.put, nzA, nzB, nzC]
  refine wpAnyH_ready (rs := [3]) (by kernel_rfl) (by simp) (gcall 3 (some 14) rfl (by kernel_rfl) (by kernel_rfl) (by kernel_rfl) (unhide HB _) (fun X hX => hS0.on hX) ?_ AllReadyH.nil)
  intro X hX
  replace hS0 := hS0.on hX
  clear hX
  simp only [Act.put, nzA, nzB, nzC]
  refine gpure 4 (some 15) (.bool false) rfl (by kernel_rfl) (by kernel_rfl) (by kernel_rfl) (fun _ _ _ h => h) (by kernel_rfl) (by kernel_rfl) (hsym (r := ((2 : Int) != 2)) hne (fun _ => by kernel_rfl)) hS0 ?_
  simp only [Act.put, nzA, nzB, nzC]
  refine wpAnyH_done (by kernel_rfl) ?_ _
  try simp only [Act.put, nzA, nzB, nzC]
  clear LL
  have LL := hide hS0
  clear hS0
  go_wp2_with (first | go_skip | ((with_reducible apply load23); (case ho => rfl); (case hw => rfl); (case hx => rfl); (case hc => first | exact (unhide LL).get 0 rfl | exact (unhide LL).get 1 rfl); simp only [Act.put, nzA, nzB, nzC]) | ((with_reducible apply load9); (case ho => rfl); (case hw => rfl); (case hx => rfl); (case hc => first | exact (unhide LL).get 0 rfl | exact (unhide LL).get 1 rfl); simp only [Act.put, nzA, nzB, nzC]) | ((with_reducible apply load3); (case ho => rfl); (case hw => rfl); (case hx => rfl); (case hc => first | exact (unhide LL).get 0 rfl | exact (unhide LL).get 1 rfl); simp only [Act.put, nzA, nzB, nzC]))
  refine (unhide HA _).mono ?_
  rintro _ w5 ⟨rfl, hb⟩
  replace LL := hide ((unhide LL).on hb)
  clear hb
  go_wp2_with (first | go_skip | ((with_reducible apply load23); (case ho => rfl); (case hw => rfl); (case hx => rfl); (case hc => first | exact (unhide LL).get 0 rfl | exact (unhide LL).get 1 rfl); simp only [Act.put, nzA, nzB, nzC]) | ((with_reducible apply load9); (case ho => rfl); (case hw => rfl); (case hx => rfl); (case hc => first | exact (unhide LL).get 0 rfl | exact (unhide LL).get 1 rfl); simp only [Act.put, nzA, nzB, nzC]) | ((with_reducible apply load3); (case ho => rfl); (case hw => rfl); (case hx => rfl); (case hc => first | exact (unhide LL).get 0 rfl | exact (unhide LL).get 1 rfl); simp only [Act.put, nzA, nzB, nzC]))
  refine (unhide HSg _).mono ?_
  rintro _ _ ⟨rfl, rfl⟩
  go_wp2_with (first | go_skip | ((with_reducible apply load23); (case ho => rfl); (case hw => rfl); (case hx => rfl); (case hc => first | exact (unhide LL).get 0 rfl | exact (unhide LL).get 1 rfl); simp only [Act.put, nzA, nzB, nzC]) | ((with_reducible apply load9); (case ho => rfl); (case hw => rfl); (case hx => rfl); (case hc => first | exact (unhide LL).get 0 rfl | exact (unhide LL).get 1 rfl); simp only [Act.put, nzA, nzB, nzC]) | ((with_reducible apply load3); (case ho => rfl); (case hw => rfl); (case hx => rfl); (case hc => first | exact (unhide LL).get 0 rfl | exact (unhide LL).get 1 rfl); simp only [Act.put, nzA, nzB, nzC]))
  go_ret
  exact ⟨rfl, (unhide LL).below⟩
theorem refCmp (a b : KK) (ha : a.s.size ≤ 1048576) (hb : b.s.size ≤ 1048576) (na : 0 ≤ a.n ∧ a.n ≤ 65536) (nb : 0 ≤ b.n ∧ b.n ≤ 65536) (w : World) : Calls Tryz.prog 53 #[a.agg, b.agg] w fun e w' => e = .returned (.int .i64 (cmpK a.s a.n b.s b.n)) ∧ Below w.heap.size w w' := by
  by_cases hk : kdOf a.s a.n = kdOf b.s b.n
  · have h := kd_range a.s a.n
    by_cases h0 : kdOf a.s a.n = 0
    · exact refCmp_0 a b ha hb na nb hk h0 w
    · by_cases h1 : kdOf a.s a.n = 1
      · exact refCmp_1 a b ha hb na nb hk h1 w
      · exact refCmp_2 a b ha hb na nb hk (by omega) w
  · exact refCmp_ne a b ha hb na nb hk w
