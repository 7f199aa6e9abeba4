import Derived.Test.YtmlofbgnoaobfaaDoorKm
namespace Go.Proofs.YtmlofbgnoaobfaaDoor
open Go Go.Proofs Go.RowKit
set_option linter.unusedSimpArgs false
set_option linter.unusedVariables false
theorem one_str (s : ByteArray) (hp : 0 < s.size) (h : ((s[0]'hp).toNat : Int) = 48) : (s.toList == [48]) = decide (s.size = 1) := by
  have hl : s.toList.length = s.size := by rw [Lib.toList_data]; rfl
  have h0 : s.toList[0]? = some 48 := by
    rw [Lib.toList_data, Array.getElem?_toList, Array.getElem?_eq_getElem (h := hp)]
    congr 1
    exact UInt8.toNat_inj.1 (by show (s[0]'hp).toNat = 48; omega)
  rw [← hl]
  cases e : s.toList with
  | nil => rw [e] at h0; cases h0
  | cons c r =>
    rw [e] at h0
    simp only [List.getElem?_cons_zero, Option.some.injEq] at h0
    subst h0
    cases r <;> simp
set_option maxHeartbeats 2000000 in
set_option maxRecDepth 100000 in
theorem upTo49 (s : ByteArray) (most : Nat) (hs : s.size < 4611686018427387904) (hm : most ≤ 9007199254740991) (w : World) : Calls Tryd.prog 49 #[.int .i64 (most : Nat), .string s] w fun e w' => e = .returned (.tuple #[.int .i64 ((dgV most (nums s)).getD 0 : Nat), .bool (dgV most (nums s)).isSome]) ∧ w' = w := by
  have hE : (s.toList.isEmpty = true) ↔ s.size = 0 := by
    rw [ByteArray.size, ← Array.length_toList, List.length_eq_zero_iff]
    simp [Lib.toList_data]
  go_enter Tryd.func49, Tryd.ntmps49
  by_cases h0 : s.size = 0
  · have hv := dgV_nil most s h0
    have he := hE.2 h0
    have hz : (s.size : Int) = 0 := by omega
    clear hE
    go_wp2
    go_ret2
    exact ⟨by rw [hv]; rfl, rfl⟩
  · have hp : 0 < s.size := by omega
    have hv := dgV_cons most s hp
    have he : s.toList.isEmpty = false := by
      cases h : s.toList.isEmpty
      · rfl
      · exact absurd (hE.1 h) h0
    clear hE
    have z0 : (0 : Int) < s.size := by omega
    by_cases hz : (s.get! 0).toNat = 48 ∧ 1 < s.size
    · rw [if_pos hz] at hv
      obtain ⟨hz1, hz2⟩ := hz
      have z1 : (1 : Int) < s.size := by omega
      have z2 : ((s[0]'hp).toNat : Int) = 48 := by rw [← get_at s 0 hp]; omega
      clear hz1
      have q1 : (s.toList == [48]) = false := by rw [one_str s hp z2]; exact decide_eq_false (by omega)
      go_wp2
      go_ret2
      exact ⟨by rw [hv]; rfl, rfl⟩
    · rw [if_neg hz] at hv
      have HV := hide hv
      clear hv
      have hc3 : (¬ ((s[0]'hp).toNat : Int) = 48) ∨ (¬ 1 < s.size ∧ ((s[0]'hp).toNat : Int) = 48) := by
        rw [← get_at s 0 hp]; omega
      clear hz
      rcases hc3 with z2 | ⟨h1, z2⟩
      · have h1 := trivial
        have q1 := trivial
        have z1 := trivial
        go_wp2_with fail
        go_loopg [6, 21] (s.size + 1) (fun g s6 s21 wr => ∃ (n i : Nat), s6 = .int .i64 n ∧ s21 = .int .i64 i ∧ i ≤ s.size ∧ s.size - i < g ∧ n ≤ most ∧ wr = w ∧ Hid (dgV most (nums s) = dgF most ((nums s).drop i) n))
        case atStart => exact ⟨0, 0, rfl, rfl, Nat.zero_le _, by omega, Nat.zero_le _, rfl, HV⟩
        case round =>
          obtain ⟨n, i, rfl, rfl, hi, hg, hn, rfl, hR⟩ := hrel
          clear z0 z1 z2 h1 q1
          by_cases hil : i < s.size
          · have hst := dgF_step most s i n hil
            rw [get_at s i hil] at hst
            have y0 : (i : Int) < s.size := by omega
            have hcl := (s[i]'hil).toNat_lt
            by_cases hc1 : (s[i]'hil).toNat < 48
            · rw [if_pos (Or.inl hc1)] at hst
              have HS := hide hst
              have y1 : ((s[i]'hil).toNat : Int) < 48 := by omega
              clear hst hc1
              go_wp2
              go_ret2
              exact ⟨by rw [unhide hR, unhide HS]; rfl, rfl⟩
            · have y1 : ¬ ((s[i]'hil).toNat : Int) < 48 := by omega
              by_cases hc2 : 57 < (s[i]'hil).toNat
              · rw [if_pos (Or.inr hc2)] at hst
                have HS := hide hst
                have y2 : (57 : Int) < ((s[i]'hil).toNat : Int) := by omega
                clear hst hc1 hc2
                go_wp2
                go_ret2
                exact ⟨by rw [unhide hR, unhide HS]; rfl, rfl⟩
              · rw [if_neg (by omega)] at hst
                have y2 : ¬ (57 : Int) < ((s[i]'hil).toNat : Int) := by omega
                obtain ⟨m, hm1⟩ : ∃ m, m = n * 10 + ((s[i]'hil).toNat - 48) := ⟨_, rfl⟩
                rw [← hm1] at hst
                have y3 : IntKind.u8.wrap (((s[i]'hil).toNat : Int) - 48) = (((s[i]'hil).toNat - 48 : Nat) : Int) := by
                  simp [IntKind.wrap, IntKind.bits, IntKind.signed]; omega
                have y4 : IntKind.i64.wrap (((s[i]'hil).toNat - 48 : Nat) : Int) = (((s[i]'hil).toNat - 48 : Nat) : Int) := by
                  rw [IntKind.wrap_i64]; omega
                have y5 : IntKind.i64.wrap (10 * (n : Int)) = ((10 * n : Nat) : Int) := by
                  rw [IntKind.wrap_i64]; omega
                have y6 : IntKind.i64.wrap (((10 * n : Nat) : Int) + (((s[i]'hil).toNat - 48 : Nat) : Int)) = (m : Int) := by
                  rw [IntKind.wrap_i64]; omega
                have y7 : IntKind.i64.wrap ((i : Int) + 1) = ((i + 1 : Nat) : Int) := by rw [IntKind.wrap_i64]; omega
                by_cases hmm : most < m
                · rw [if_pos hmm] at hst
                  have HS := hide hst
                  have y8 : (most : Int) < m := by omega
                  clear hst hc1 hc2
                  go_wp2
                  go_ret2
                  exact ⟨by rw [unhide hR, unhide HS]; rfl, rfl⟩
                · rw [if_neg hmm] at hst
                  have HS := hide hst
                  have y8 : ¬ (most : Int) < m := by omega
                  clear hst hc1 hc2
                  go_wp2
                  go_roundg (s.size - i)
                  case measure => omega
                  case rel => exact ⟨m, i + 1, by congr 1; omega, by go_num, by omega, by omega, by omega, rfl, hide (by rw [unhide hR, unhide HS])⟩
          · have hst := dgF_end most s i n (by omega)
            have HS := hide hst
            have y0 : ¬ (i : Int) < s.size := by omega
            clear hst
            go_wp2
            go_ret2
            exact ⟨by rw [unhide hR, unhide HS]; rfl, rfl⟩
      · have q1 : (s.toList == [48]) = true := by rw [one_str s hp z2]; exact decide_eq_true (by omega)
        have z1 := trivial
        go_wp2_with fail
        go_loopg [6, 21] (s.size + 1) (fun g s6 s21 wr => ∃ (n i : Nat), s6 = .int .i64 n ∧ s21 = .int .i64 i ∧ i ≤ s.size ∧ s.size - i < g ∧ n ≤ most ∧ wr = w ∧ Hid (dgV most (nums s) = dgF most ((nums s).drop i) n))
        case atStart => exact ⟨0, 0, rfl, rfl, Nat.zero_le _, by omega, Nat.zero_le _, rfl, HV⟩
        case round =>
          obtain ⟨n, i, rfl, rfl, hi, hg, hn, rfl, hR⟩ := hrel
          clear z0 z1 z2 h1 q1
          by_cases hil : i < s.size
          · have hst := dgF_step most s i n hil
            rw [get_at s i hil] at hst
            have y0 : (i : Int) < s.size := by omega
            have hcl := (s[i]'hil).toNat_lt
            by_cases hc1 : (s[i]'hil).toNat < 48
            · rw [if_pos (Or.inl hc1)] at hst
              have HS := hide hst
              have y1 : ((s[i]'hil).toNat : Int) < 48 := by omega
              clear hst hc1
              go_wp2
              go_ret2
              exact ⟨by rw [unhide hR, unhide HS]; rfl, rfl⟩
            · have y1 : ¬ ((s[i]'hil).toNat : Int) < 48 := by omega
              by_cases hc2 : 57 < (s[i]'hil).toNat
              · rw [if_pos (Or.inr hc2)] at hst
                have HS := hide hst
                have y2 : (57 : Int) < ((s[i]'hil).toNat : Int) := by omega
                clear hst hc1 hc2
                go_wp2
                go_ret2
                exact ⟨by rw [unhide hR, unhide HS]; rfl, rfl⟩
              · rw [if_neg (by omega)] at hst
                have y2 : ¬ (57 : Int) < ((s[i]'hil).toNat : Int) := by omega
                obtain ⟨m, hm1⟩ : ∃ m, m = n * 10 + ((s[i]'hil).toNat - 48) := ⟨_, rfl⟩
                rw [← hm1] at hst
                have y3 : IntKind.u8.wrap (((s[i]'hil).toNat : Int) - 48) = (((s[i]'hil).toNat - 48 : Nat) : Int) := by
                  simp [IntKind.wrap, IntKind.bits, IntKind.signed]; omega
                have y4 : IntKind.i64.wrap (((s[i]'hil).toNat - 48 : Nat) : Int) = (((s[i]'hil).toNat - 48 : Nat) : Int) := by
                  rw [IntKind.wrap_i64]; omega
                have y5 : IntKind.i64.wrap (10 * (n : Int)) = ((10 * n : Nat) : Int) := by
                  rw [IntKind.wrap_i64]; omega
                have y6 : IntKind.i64.wrap (((10 * n : Nat) : Int) + (((s[i]'hil).toNat - 48 : Nat) : Int)) = (m : Int) := by
                  rw [IntKind.wrap_i64]; omega
                have y7 : IntKind.i64.wrap ((i : Int) + 1) = ((i + 1 : Nat) : Int) := by rw [IntKind.wrap_i64]; omega
                by_cases hmm : most < m
                · rw [if_pos hmm] at hst
                  have HS := hide hst
                  have y8 : (most : Int) < m := by omega
                  clear hst hc1 hc2
                  go_wp2
                  go_ret2
                  exact ⟨by rw [unhide hR, unhide HS]; rfl, rfl⟩
                · rw [if_neg hmm] at hst
                  have HS := hide hst
                  have y8 : ¬ (most : Int) < m := by omega
                  clear hst hc1 hc2
                  go_wp2
                  go_roundg (s.size - i)
                  case measure => omega
                  case rel => exact ⟨m, i + 1, by congr 1; omega, by go_num, by omega, by omega, by omega, rfl, hide (by rw [unhide hR, unhide HS])⟩
          · have hst := dgF_end most s i n (by omega)
            have HS := hide hst
            have y0 : ¬ (i : Int) < s.size := by omega
            clear hst
            go_wp2
            go_ret2
            exact ⟨by rw [unhide hR, unhide HS]; rfl, rfl⟩
end Go.Proofs.YtmlofbgnoaobfaaDoor
