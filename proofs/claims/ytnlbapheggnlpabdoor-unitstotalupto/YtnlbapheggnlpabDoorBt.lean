import Derived.Test.YtnlbapheggnlpabDoorWx
namespace Go.Proofs.YtnlbapheggnlpabDoor
open Go.RowKit Go.Shelf

theorem cm_ok {a b : ByteArray} (ha : vS a = true) (hb : vS b = true) : cmI a b = M.cmpL (unS a) (unS b) ∧ cmE a b = 0 := by unfold cmI cmE okC'; rw [ha, hb]; exact ⟨rfl, rfl⟩
theorem cm_bad {a b : ByteArray} (h : (vS a && vS b) = false) : cmI a b = 0 ∧ cmE a b = 10 := by unfold cmI cmE okC'; rw [h]; exact ⟨rfl, rfl⟩
theorem valid_v (s : ByteArray) (b : Bool) (h : vS s = b) (w : World) (hT : Lib.Utf8Tabs 0 1 w) : Calls Tryd.prog 7 #[.string s] w fun e w' => e = .returned (.bool b) ∧ Below w.heap.size w w' := by
  have := valid_any s w hT
  unfold vS at h; rw [h] at this; exact this

set_option maxHeartbeats 4000000 in
set_option maxRecDepth 100000 in
theorem total_bad (a b c : ByteArray) (ha : a.size ≤ 1048576) (hb : b.size ≤ 1048576) (hc : c.size ≤ 1048576) (hv : (vS a && vS b && vS c) = false) (w : World) (hT : Lib.Utf8Tabs 0 1 w) :
    Calls Tryd.prog 4 #[.string a, .string b, .string c] w fun e w' => e = .returned (.bool true) ∧ Below w.heap.size w w' := by
  have HT := hide hT; clear hT
  have h1 := fun w hT => compare_any a b (by omega) (by omega) w hT
  have h2 := fun w hT => compare_any b c (by omega) (by omega) w hT
  have h3 := fun w hT => compare_any a c (by omega) (by omega) w hT
  have h4 := fun w hT => compare_any b a (by omega) (by omega) w hT
  have hV1 := fun x h => valid_v a x h
  have hV2 := fun x h => valid_v b x h
  have hV3 := fun x h => valid_v c x h
  have e1 : (vS a && vS b) = true → cmE a b = 0 := fun h => by simp at h; exact (cm_ok h.1 h.2).2
  have e2 : (vS b && vS c) = true → cmE b c = 0 := fun h => by simp at h; exact (cm_ok h.1 h.2).2
  have e3 : (vS a && vS c) = true → cmE a c = 0 := fun h => by simp at h; exact (cm_ok h.1 h.2).2
  have f1 := fun h => (@cm_bad a b h).2
  have f2 := fun h => (@cm_bad b c h).2
  have f3 := fun h => (@cm_bad a c h).2
  generalize cmI a b = x1 at *; generalize cmI b c = x2 at *; generalize cmI a c = x3 at *; generalize cmI b a = x4 at *
  generalize cmE a b = y1 at *; generalize cmE b c = y2 at *; generalize cmE a c = y3 at *; generalize cmE b a = y4 at *
  generalize vS a = va at *; generalize vS b = vb at *; generalize vS c = vc at *
  have H1 := hide h1; have H2 := hide h2; have H3 := hide h3; have H4 := hide h4; clear h1 h2 h3 h4
  have V1 := hide hV1; have V2 := hide hV2; have V3 := hide hV3; clear hV1 hV2 hV3
  have hcase : (va = false ∧ y1 = 10) ∨ (va = true ∧ vb = false ∧ y1 = 10) ∨ (va = true ∧ vb = true ∧ vc = false ∧ y1 = 0 ∧ y2 = 10) := by
    cases va <;> cases vb <;> cases vc <;> simp_all
  clear e1 e2 e3 f1 f2 f3 hv
  go_enter Tryd.func4, Tryd.ntmps4
  go_wp2_with fail
  refine (awake_any w (unhide HT)).mono ?_
  rintro e w0 ⟨rfl, hB0⟩
  go_wp2_with fail
  refine (unhide H1 w0 (tabs_below (unhide HT) hB0)).mono ?_
  rintro e w1 ⟨rfl, hb1⟩
  have hB1 := hB0.trans (hb1.mono hB0.size)
  go_wp2_with fail
  refine (unhide H2 w1 (tabs_below (unhide HT) hB1)).mono ?_
  rintro e w2 ⟨rfl, hb2⟩
  have hB2 := hB1.trans (hb2.mono hB1.size)
  go_wp2_with fail
  refine (unhide H3 w2 (tabs_below (unhide HT) hB2)).mono ?_
  rintro e w3 ⟨rfl, hb3⟩
  have hB3 := hB2.trans (hb3.mono hB2.size)
  go_wp2_with fail
  refine (unhide H4 w3 (tabs_below (unhide HT) hB3)).mono ?_
  rintro e w4 ⟨rfl, hb4⟩
  have hB4 := hB3.trans (hb4.mono hB3.size)
  clear hb1 hb2 hb3 hb4
  rcases hcase with ⟨rfl, rfl⟩ | ⟨rfl, rfl, rfl⟩ | ⟨rfl, rfl, rfl, rfl, rfl⟩
  · go_wp2_with fail
    refine (unhide V1 _ rfl w4 (tabs_below (unhide HT) hB4)).mono ?_
    rintro e w5 ⟨rfl, hb5⟩
    have hB5 := hB4.trans (hb5.mono hB4.size)
    go_wp2
    go_ret
    exact ⟨rfl, hB5⟩
  · go_wp2_with fail
    refine (unhide V1 _ rfl w4 (tabs_below (unhide HT) hB4)).mono ?_
    rintro e w5 ⟨rfl, hb5⟩
    have hB5 := hB4.trans (hb5.mono hB4.size)
    go_wp2_with fail
    refine (unhide V2 _ rfl w5 (tabs_below (unhide HT) hB5)).mono ?_
    rintro e w6 ⟨rfl, hb6⟩
    have hB6 := hB5.trans (hb6.mono hB5.size)
    go_wp2
    go_ret
    exact ⟨rfl, hB6⟩
  · go_wp2_with fail
    refine (unhide V1 _ rfl w4 (tabs_below (unhide HT) hB4)).mono ?_
    rintro e w5 ⟨rfl, hb5⟩
    have hB5 := hB4.trans (hb5.mono hB4.size)
    go_wp2_with fail
    refine (unhide V2 _ rfl w5 (tabs_below (unhide HT) hB5)).mono ?_
    rintro e w6 ⟨rfl, hb6⟩
    have hB6 := hB5.trans (hb6.mono hB5.size)
    go_wp2_with fail
    refine (unhide V3 _ rfl w6 (tabs_below (unhide HT) hB6)).mono ?_
    rintro e w7 ⟨rfl, hb7⟩
    have hB7 := hB6.trans (hb7.mono hB6.size)
    go_wp2
    go_ret
    exact ⟨rfl, hB7⟩

set_option maxHeartbeats 8000000 in
set_option maxRecDepth 100000 in
theorem total_good (a b c : ByteArray) (ha : a.size ≤ 1048576) (hb : b.size ≤ 1048576) (hc : c.size ≤ 1048576) (hva : vS a = true) (hvb : vS b = true) (hvc : vS c = true) (w : World) (hT : Lib.Utf8Tabs 0 1 w) :
    Calls Tryd.prog 4 #[.string a, .string b, .string c] w fun e w' => e = .returned (.bool true) ∧ Below w.heap.size w w' := by
  have HT := hide hT; clear hT
  have h1 := fun w hT => compare_any a b (by omega) (by omega) w hT
  have h2 := fun w hT => compare_any b c (by omega) (by omega) w hT
  have h3 := fun w hT => compare_any a c (by omega) (by omega) w hT
  have h4 := fun w hT => compare_any b a (by omega) (by omega) w hT
  have h5 : ∀ w : World, Lib.Utf8Tabs 0 1 w → Calls Tryd.prog 9 #[.string a, .string b] w fun e w' => ∃ c i, e = .returned (.tuple #[.string c, .int .i64 i]) ∧
      (i = 6 ∨ (i = 0 ∧ ∃ v, (v = -1 ∧ b.toList ≠ [] ∨ v = 0 ∧ b.toList = []) ∧ ∀ w : World, Lib.Utf8Tabs 0 1 w → Calls Tryd.prog 13 #[.string a, .string c] w fun e w' => e = .returned (.tuple #[.int .i64 v, .int .i64 0]) ∧ Below w.heap.size w w')) ∧ Below w.heap.size w w' := by
    intro w hT
    refine (concat_any a b (by omega) (by omega) w hT).mono ?_
    rintro e w' ⟨t, rfl, ht, hb⟩
    have hok : okC a b = true := by unfold okC; rw [hva, hvb]; rfl
    by_cases hl : (catR a b).length ≤ 1048576
    · obtain ⟨q1, q2⟩ := cat_ok hok hl
      rw [q1] at ht
      have hsm : ∀ x ∈ unS a ++ unS b, x < 65536 := fun x hx => by
        rcases List.mem_append.1 hx with h | h
        · exact unS_small a x h
        · exact unS_small b x h
      obtain ⟨r1, r2⟩ := of_un hsm ht
      obtain ⟨c1, c2⟩ := cm_ok hva r1
      rw [r2] at c1
      obtain ⟨d1, d2⟩ := M.cmpL_app (unS a) (unS b)
      have d3 := M.cmpL_rng (unS a) (unS a ++ unS b)
      have hn := un_nil hvb
      refine ⟨t, _, rfl, .inr ⟨q2, M.cmpL (unS a) (unS a ++ unS b), ?_, fun w hT => ?_⟩, hb⟩
      · by_cases hz : unS b = []
        · right
          refine ⟨?_, hn.1 hz⟩
          have : ¬ M.cmpL (unS a) (unS a ++ unS b) < 0 := fun h => (d2.1 h) hz
          omega
        · left
          refine ⟨?_, fun h => hz (hn.2 h)⟩
          have := d2.2 hz
          omega
      · have hts : t.size ≤ 1048576 := by rw [← nums_len, ht]; exact hl
        have := compare_any a t (by omega) (by omega) w hT
        rw [c1, c2] at this
        exact this
    · obtain ⟨q1, q2⟩ := cat_long hok (by omega)
      exact ⟨t, _, rfl, .inl q2, hb⟩
  obtain ⟨i1, e1⟩ := cm_ok hva hvb
  obtain ⟨i2, e2⟩ := cm_ok hvb hvc
  obtain ⟨i3, e3⟩ := cm_ok hva hvc
  obtain ⟨i4, e4⟩ := cm_ok hvb hva
  rw [i1, e1] at h1; rw [i2, e2] at h2; rw [i3, e3] at h3; rw [i4, e4] at h4
  have r1 := M.cmpL_rng (unS a) (unS b)
  have r2 := M.cmpL_rng (unS b) (unS c)
  have r3 := M.cmpL_rng (unS a) (unS c)
  have n4 := M.cmpL_neg (unS b) (unS a)
  have t1 := M.cmpL_le (unS a) (unS b) (unS c)
  have t2 := M.cmpL_ge (unS a) (unS b) (unS c)
  have z1 : M.cmpL (unS a) (unS b) = 0 ↔ a.toList = b.toList := by
    rw [M.cmpL_zero]
    exact ⟨fun h => by rw [un_inj hva hvb h], fun h => by rw [toList_inj h]⟩
  clear i1 i2 i3 i4 e1 e2 e3 e4 hva hvb hvc
  generalize M.cmpL (unS a) (unS b) = x at *
  generalize M.cmpL (unS b) (unS c) = y at *
  generalize M.cmpL (unS a) (unS c) = z at *
  generalize M.cmpL (unS b) (unS a) = u at *
  have H1 := hide h1; have H2 := hide h2; have H3 := hide h3; have H4 := hide h4; have H5 := hide h5; clear h1 h2 h3 h4 h5
  have hab : (x = 0 ∧ a.toList = b.toList) ∨ (x ≠ 0 ∧ a.toList ≠ b.toList) := by
    by_cases h : x = 0
    · exact .inl ⟨h, z1.1 h⟩
    · exact .inr ⟨h, fun e => h (z1.2 e)⟩
  subst n4
  clear z1
  have HC := hide (And.intro r1 (And.intro r2 (And.intro r3 (And.intro t1 (And.intro t2 hab)))))
  clear r1 r2 r3 t1 t2 hab
  go_enter Tryd.func4, Tryd.ntmps4
  go_wp2_with fail
  refine (awake_any w (unhide HT)).mono ?_
  rintro e w0 ⟨rfl, hB0⟩
  go_wp2_with fail
  refine (unhide H1 w0 (tabs_below (unhide HT) hB0)).mono ?_
  rintro e w1 ⟨rfl, hb1⟩
  have hB1 := hB0.trans (hb1.mono hB0.size)
  go_wp2_with fail
  refine (unhide H2 w1 (tabs_below (unhide HT) hB1)).mono ?_
  rintro e w2 ⟨rfl, hb2⟩
  have hB2 := hB1.trans (hb2.mono hB1.size)
  go_wp2_with fail
  refine (unhide H3 w2 (tabs_below (unhide HT) hB2)).mono ?_
  rintro e w3 ⟨rfl, hb3⟩
  have hB3 := hB2.trans (hb3.mono hB2.size)
  go_wp2_with fail
  refine (unhide H4 w3 (tabs_below (unhide HT) hB3)).mono ?_
  rintro e w4 ⟨rfl, hb4⟩
  have hB4 := hB3.trans (hb4.mono hB3.size)
  clear hb1 hb2 hb3 hb4
  obtain ⟨r1, r2, r3, t1, t2, hab⟩ := unhide HC
  have hab' : (x = 0 ∧ (a.toList == b.toList) = true ∧ a.toList = b.toList) ∨ (x ≠ 0 ∧ (a.toList == b.toList) = false ∧ ¬ a.toList = b.toList) := by
    rcases hab with ⟨h1, h2⟩ | ⟨h1, h2⟩
    · exact .inl ⟨h1, by rw [h2]; simp, h2⟩
    · exact .inr ⟨h1, by simpa using h2, h2⟩
  clear hab HC
  rcases r1 with rfl | rfl | rfl <;> rcases r2 with rfl | rfl | rfl <;> rcases r3 with rfl | rfl | rfl <;> rcases hab' with ⟨hx, hs, hs'⟩ | ⟨hx, hs, hs'⟩ <;> try (exfalso; omega)
  all_goals clear t1 t2 hx
  all_goals
    go_wp2_with fail
    refine (unhide H5 w4 (tabs_below (unhide HT) hB4)).mono ?_
    rintro e w5 ⟨t, i, rfl, hcase, hb5⟩
    have hB5 := hB4.trans (hb5.mono hB4.size)
    rcases hcase with rfl | ⟨rfl, v, hv, hcmp⟩
    · go_wp2
      go_ret
      exact ⟨rfl, hB5⟩
    · have HCM := hide hcmp; clear hcmp
      go_wp2_with fail
      refine (unhide HCM w5 (tabs_below (unhide HT) hB5)).mono ?_
      rintro e w6 ⟨rfl, hb6⟩
      have hB6 := hB5.trans (hb6.mono hB5.size)
      rcases hv with ⟨rfl, hbn⟩ | ⟨rfl, hbn⟩
      · have hbe : b.toList.isEmpty = false := by simpa using hbn
        have hbe2 : (b.toList == []) = false := by simpa using hbn
        go_wp2
        go_ret
        exact ⟨rfl, hB6⟩
      · have hbe : b.toList.isEmpty = true := by simpa using hbn
        have hbe2 : (b.toList == []) = true := by simpa using hbn
        go_wp2
        go_ret
        exact ⟨rfl, hB6⟩

theorem law_total (a b c : ByteArray) (ha : a.size ≤ 1048576) (hb : b.size ≤ 1048576) (hc : c.size ≤ 1048576) (w : World) (hT : Lib.Utf8Tabs 0 1 w) :
    Calls Tryd.prog 4 #[.string a, .string b, .string c] w fun e w' => e = .returned (.bool true) ∧ Below w.heap.size w w' := by
  cases h : (vS a && vS b && vS c) with
  | false => exact total_bad a b c ha hb hc h w hT
  | true =>
    simp only [Bool.and_eq_true] at h
    exact total_good a b c ha hb hc h.1.1 h.1.2 h.2 w hT
end Go.Proofs.YtnlbapheggnlpabDoor
