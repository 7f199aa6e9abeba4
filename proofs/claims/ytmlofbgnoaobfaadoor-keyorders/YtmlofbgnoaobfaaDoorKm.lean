import Derived.Test.YtmlofbgnoaobfaaDoorKc
import Derived.Test.YtmlofbgnoaobfaaDoorSa
namespace Go.Proofs.YtmlofbgnoaobfaaDoor
open Go Go.Proofs Go.RowKit
set_option linter.unusedSimpArgs false
set_option linter.unusedVariables false
/-- The number that digits stand for, if it isn't above a limit. -/
def dgF (most : Nat) : List Nat → Nat → Option Nat
  | [], n => some n
  | c :: r, n => if c < 48 ∨ 57 < c then none else if most < n * 10 + (c - 48) then none else dgF most r (n * 10 + (c - 48))
def dgV (most : Nat) (l : List Nat) : Option Nat :=
  match l with
  | [] => none
  | c :: r => if c = 48 ∧ r ≠ [] then none else dgF most (c :: r) 0
theorem dgF_le (most : Nat) : ∀ (l : List Nat) (n m : Nat), n ≤ most → dgF most l n = some m → m ≤ most
  | [], n, m, h, e => by simp [dgF] at e; omega
  | c :: r, n, m, h, e => by
    unfold dgF at e
    split at e
    · cases e
    · split at e
      · cases e
      · exact dgF_le most r _ m (by omega) e
theorem dgV_le (most : Nat) (l : List Nat) (m : Nat) (e : dgV most l = some m) : m ≤ most := by
  unfold dgV at e
  split at e
  · cases e
  · split at e
    · cases e
    · exact dgF_le most _ 0 m (Nat.zero_le _) e
theorem get_at (s : ByteArray) (i : Nat) (h : i < s.size) : s.get! i = s[i]'h := by
  cases s with
  | mk d => exact getElem!_pos d i h
theorem dgF_step (most : Nat) (s : ByteArray) (i n : Nat) (h : i < s.size) :
    dgF most ((nums s).drop i) n = if (s.get! i).toNat < 48 ∨ 57 < (s.get! i).toNat then none else if most < n * 10 + ((s.get! i).toNat - 48) then none else dgF most ((nums s).drop (i + 1)) (n * 10 + ((s.get! i).toNat - 48)) := by
  have hl : i < (nums s).length := by rw [nums_len]; exact h
  have hg : (s.get! i).toNat = (nums s)[i] := by
    rw [get_nums, List.getD_eq_getElem?_getD, List.getElem?_eq_getElem hl]; rfl
  rw [hg, List.drop_eq_getElem_cons hl, dgF]
theorem dgF_end (most : Nat) (s : ByteArray) (i n : Nat) (h : s.size ≤ i) : dgF most ((nums s).drop i) n = some n := by
  rw [List.drop_eq_nil_of_le (by rw [nums_len]; exact h), dgF]
theorem dgV_nil (most : Nat) (s : ByteArray) (h : s.size = 0) : dgV most (nums s) = none := by
  have : nums s = [] := by rw [← List.length_eq_zero_iff, nums_len]; exact h
  rw [this, dgV]
theorem dgV_cons (most : Nat) (s : ByteArray) (h : 0 < s.size) : dgV most (nums s) = if (s.get! 0).toNat = 48 ∧ 1 < s.size then none else dgF most ((nums s).drop 0) 0 := by
  have hg := get_nums s 0
  have hl := nums_len s
  cases hn : nums s with
  | nil => rw [hn] at hl; simp at hl; omega
  | cons c r =>
    rw [hn] at hg hl
    simp only [List.getD_cons_zero, List.length_cons] at hg hl
    rw [hg, dgV, List.drop_zero]
    have : (r ≠ []) ↔ 1 < s.size := by
      rw [← hl, ← List.length_pos_iff]; omega
    simp only [this]
set_option maxHeartbeats 2000000 in
set_option maxRecDepth 100000 in
theorem digits28 (s : ByteArray) (most : Nat) (hs : s.size < 4611686018427387904) (hm : most ≤ 9007199254740991) (w : World) : Calls Tryd.prog 28 #[.string s, .int .u64 (most : Nat)] w fun e w' => e = .returned (.tuple #[.int .u64 ((dgV most (nums s)).getD 0 : Nat), .bool (dgV most (nums s)).isSome]) ∧ w' = w := by
  have hE : (s.toList.isEmpty = true) ↔ s.size = 0 := by
    rw [ByteArray.size, ← Array.length_toList, List.length_eq_zero_iff]
    simp [Lib.toList_data]
  go_enter Tryd.func28, Tryd.ntmps28
  by_cases h0 : s.size = 0
  · have hv := dgV_nil most s h0
    have he := hE.2 h0
    have hz : (s.size : Int) = 0 := by omega
    clear hE
    go_wp2
    go_ret2
    exact ⟨by rw [hv]; rfl, rfl⟩
  · have hp : 0 < s.size := by omega
    have hv := dgV_cons most s hp
    have he : s.toList.isEmpty = false := by
      cases h : s.toList.isEmpty
      · rfl
      · exact absurd (hE.1 h) h0
    clear hE
    have z0 : (0 : Int) < s.size := by omega
    by_cases hz : (s.get! 0).toNat = 48 ∧ 1 < s.size
    · rw [if_pos hz] at hv
      obtain ⟨hz1, hz2⟩ := hz
      have z1 : (1 : Int) < s.size := by omega
      have z2 : ((s[0]'hp).toNat : Int) = 48 := by rw [← get_at s 0 hp]; omega
      clear hz1
      go_wp2
      go_ret2
      exact ⟨by rw [hv]; rfl, rfl⟩
    · rw [if_neg hz] at hv
      have HV := hide hv
      clear hv
      have hc3 : (1 < s.size ∧ ¬ ((s[0]'hp).toNat : Int) = 48) ∨ (¬ 1 < s.size ∧ ((s[0]'hp).toNat : Int) = 48) ∨ (¬ 1 < s.size ∧ ¬ ((s[0]'hp).toNat : Int) = 48) := by
        rw [← get_at s 0 hp]; omega
      clear hz
      have ones : (1 < s.size → (1 : Int) < s.size) ∧ (¬ 1 < s.size → ¬ (1 : Int) < s.size) := ⟨by omega, by omega⟩
      rcases hc3 with ⟨h1, z2⟩ | ⟨h1, z2⟩ | ⟨h1, z2⟩
      case inl =>
        have z1 := ones.1 h1
        clear ones
        go_wp2_with fail
        go_loopg [6, 7] (s.size + 1) (fun g s6 s7 wr => ∃ (n i : Nat), s6 = .int .u64 n ∧ s7 = .int .i64 i ∧ i ≤ s.size ∧ s.size - i < g ∧ n ≤ most ∧ wr = w ∧ Hid (dgV most (nums s) = dgF most ((nums s).drop i) n))
        case atStart => exact ⟨0, 0, rfl, rfl, Nat.zero_le _, by omega, Nat.zero_le _, rfl, HV⟩
        case round =>
          obtain ⟨n, i, rfl, rfl, hi, hg, hn, rfl, hR⟩ := hrel
          clear z0 z1 z2 h1
          by_cases hil : i < s.size
          · have hst := dgF_step most s i n hil
            rw [get_at s i hil] at hst
            have y0 : (i : Int) < s.size := by omega
            have hcl := (s[i]'hil).toNat_lt
            by_cases hc1 : (s[i]'hil).toNat < 48
            · rw [if_pos (Or.inl hc1)] at hst
              have HS := hide hst
              have y1 : ((s[i]'hil).toNat : Int) < 48 := by omega
              clear hst hc1
              go_wp2
              go_ret2
              exact ⟨by rw [unhide hR, unhide HS]; rfl, rfl⟩
            · have y1 : ¬ ((s[i]'hil).toNat : Int) < 48 := by omega
              by_cases hc2 : 57 < (s[i]'hil).toNat
              · rw [if_pos (Or.inr hc2)] at hst
                have HS := hide hst
                have y2 : (57 : Int) < ((s[i]'hil).toNat : Int) := by omega
                clear hst hc1 hc2
                go_wp2
                go_ret2
                exact ⟨by rw [unhide hR, unhide HS]; rfl, rfl⟩
              · rw [if_neg (by omega)] at hst
                have y2 : ¬ (57 : Int) < ((s[i]'hil).toNat : Int) := by omega
                obtain ⟨m, hm1⟩ : ∃ m, m = n * 10 + ((s[i]'hil).toNat - 48) := ⟨_, rfl⟩
                rw [← hm1] at hst
                have y3 : IntKind.u8.wrap (((s[i]'hil).toNat : Int) - 48) = (((s[i]'hil).toNat - 48 : Nat) : Int) := by
                  simp [IntKind.wrap, IntKind.bits, IntKind.signed]; omega
                have y4 : IntKind.u64.wrap (((s[i]'hil).toNat - 48 : Nat) : Int) = (((s[i]'hil).toNat - 48 : Nat) : Int) := by
                  simp [IntKind.wrap, IntKind.bits, IntKind.signed]; omega
                have y5 : IntKind.u64.wrap ((n : Int) * 10) = ((n * 10 : Nat) : Int) := by
                  simp [IntKind.wrap, IntKind.bits, IntKind.signed]; omega
                have y6 : IntKind.u64.wrap (((n * 10 : Nat) : Int) + (((s[i]'hil).toNat - 48 : Nat) : Int)) = (m : Int) := by
                  simp [IntKind.wrap, IntKind.bits, IntKind.signed]; omega
                have y7 : IntKind.i64.wrap ((i : Int) + 1) = ((i + 1 : Nat) : Int) := by rw [IntKind.wrap_i64]; omega
                by_cases hmm : most < m
                · rw [if_pos hmm] at hst
                  have HS := hide hst
                  have y8 : (most : Int) < m := by omega
                  clear hst hc1 hc2
                  go_wp2
                  go_ret2
                  exact ⟨by rw [unhide hR, unhide HS]; rfl, rfl⟩
                · rw [if_neg hmm] at hst
                  have HS := hide hst
                  have y8 : ¬ (most : Int) < m := by omega
                  clear hst hc1 hc2
                  go_wp2
                  go_roundg (s.size - i)
                  case measure => omega
                  case rel => exact ⟨m, i + 1, by congr 1; omega, by go_num, by omega, by omega, by omega, rfl, hide (by rw [unhide hR, unhide HS])⟩
          · have hst := dgF_end most s i n (by omega)
            have HS := hide hst
            have y0 : ¬ (i : Int) < s.size := by omega
            clear hst
            go_wp2
            go_ret2
            exact ⟨by rw [unhide hR, unhide HS]; rfl, rfl⟩
      case inr.inl =>
        have z1 := ones.2 h1
        clear ones
        go_wp2_with fail
        go_loopg [6, 7] (s.size + 1) (fun g s6 s7 wr => ∃ (n i : Nat), s6 = .int .u64 n ∧ s7 = .int .i64 i ∧ i ≤ s.size ∧ s.size - i < g ∧ n ≤ most ∧ wr = w ∧ Hid (dgV most (nums s) = dgF most ((nums s).drop i) n))
        case atStart => exact ⟨0, 0, rfl, rfl, Nat.zero_le _, by omega, Nat.zero_le _, rfl, HV⟩
        case round =>
          obtain ⟨n, i, rfl, rfl, hi, hg, hn, rfl, hR⟩ := hrel
          clear z0 z1 z2 h1
          by_cases hil : i < s.size
          · have hst := dgF_step most s i n hil
            rw [get_at s i hil] at hst
            have y0 : (i : Int) < s.size := by omega
            have hcl := (s[i]'hil).toNat_lt
            by_cases hc1 : (s[i]'hil).toNat < 48
            · rw [if_pos (Or.inl hc1)] at hst
              have HS := hide hst
              have y1 : ((s[i]'hil).toNat : Int) < 48 := by omega
              clear hst hc1
              go_wp2
              go_ret2
              exact ⟨by rw [unhide hR, unhide HS]; rfl, rfl⟩
            · have y1 : ¬ ((s[i]'hil).toNat : Int) < 48 := by omega
              by_cases hc2 : 57 < (s[i]'hil).toNat
              · rw [if_pos (Or.inr hc2)] at hst
                have HS := hide hst
                have y2 : (57 : Int) < ((s[i]'hil).toNat : Int) := by omega
                clear hst hc1 hc2
                go_wp2
                go_ret2
                exact ⟨by rw [unhide hR, unhide HS]; rfl, rfl⟩
              · rw [if_neg (by omega)] at hst
                have y2 : ¬ (57 : Int) < ((s[i]'hil).toNat : Int) := by omega
                obtain ⟨m, hm1⟩ : ∃ m, m = n * 10 + ((s[i]'hil).toNat - 48) := ⟨_, rfl⟩
                rw [← hm1] at hst
                have y3 : IntKind.u8.wrap (((s[i]'hil).toNat : Int) - 48) = (((s[i]'hil).toNat - 48 : Nat) : Int) := by
                  simp [IntKind.wrap, IntKind.bits, IntKind.signed]; omega
                have y4 : IntKind.u64.wrap (((s[i]'hil).toNat - 48 : Nat) : Int) = (((s[i]'hil).toNat - 48 : Nat) : Int) := by
                  simp [IntKind.wrap, IntKind.bits, IntKind.signed]; omega
                have y5 : IntKind.u64.wrap ((n : Int) * 10) = ((n * 10 : Nat) : Int) := by
                  simp [IntKind.wrap, IntKind.bits, IntKind.signed]; omega
                have y6 : IntKind.u64.wrap (((n * 10 : Nat) : Int) + (((s[i]'hil).toNat - 48 : Nat) : Int)) = (m : Int) := by
                  simp [IntKind.wrap, IntKind.bits, IntKind.signed]; omega
                have y7 : IntKind.i64.wrap ((i : Int) + 1) = ((i + 1 : Nat) : Int) := by rw [IntKind.wrap_i64]; omega
                by_cases hmm : most < m
                · rw [if_pos hmm] at hst
                  have HS := hide hst
                  have y8 : (most : Int) < m := by omega
                  clear hst hc1 hc2
                  go_wp2
                  go_ret2
                  exact ⟨by rw [unhide hR, unhide HS]; rfl, rfl⟩
                · rw [if_neg hmm] at hst
                  have HS := hide hst
                  have y8 : ¬ (most : Int) < m := by omega
                  clear hst hc1 hc2
                  go_wp2
                  go_roundg (s.size - i)
                  case measure => omega
                  case rel => exact ⟨m, i + 1, by congr 1; omega, by go_num, by omega, by omega, by omega, rfl, hide (by rw [unhide hR, unhide HS])⟩
          · have hst := dgF_end most s i n (by omega)
            have HS := hide hst
            have y0 : ¬ (i : Int) < s.size := by omega
            clear hst
            go_wp2
            go_ret2
            exact ⟨by rw [unhide hR, unhide HS]; rfl, rfl⟩
      case inr.inr =>
        have z1 := ones.2 h1
        clear ones
        go_wp2_with fail
        go_loopg [6, 7] (s.size + 1) (fun g s6 s7 wr => ∃ (n i : Nat), s6 = .int .u64 n ∧ s7 = .int .i64 i ∧ i ≤ s.size ∧ s.size - i < g ∧ n ≤ most ∧ wr = w ∧ Hid (dgV most (nums s) = dgF most ((nums s).drop i) n))
        case atStart => exact ⟨0, 0, rfl, rfl, Nat.zero_le _, by omega, Nat.zero_le _, rfl, HV⟩
        case round =>
          obtain ⟨n, i, rfl, rfl, hi, hg, hn, rfl, hR⟩ := hrel
          clear z0 z1 z2 h1
          by_cases hil : i < s.size
          · have hst := dgF_step most s i n hil
            rw [get_at s i hil] at hst
            have y0 : (i : Int) < s.size := by omega
            have hcl := (s[i]'hil).toNat_lt
            by_cases hc1 : (s[i]'hil).toNat < 48
            · rw [if_pos (Or.inl hc1)] at hst
              have HS := hide hst
              have y1 : ((s[i]'hil).toNat : Int) < 48 := by omega
              clear hst hc1
              go_wp2
              go_ret2
              exact ⟨by rw [unhide hR, unhide HS]; rfl, rfl⟩
            · have y1 : ¬ ((s[i]'hil).toNat : Int) < 48 := by omega
              by_cases hc2 : 57 < (s[i]'hil).toNat
              · rw [if_pos (Or.inr hc2)] at hst
                have HS := hide hst
                have y2 : (57 : Int) < ((s[i]'hil).toNat : Int) := by omega
                clear hst hc1 hc2
                go_wp2
                go_ret2
                exact ⟨by rw [unhide hR, unhide HS]; rfl, rfl⟩
              · rw [if_neg (by omega)] at hst
                have y2 : ¬ (57 : Int) < ((s[i]'hil).toNat : Int) := by omega
                obtain ⟨m, hm1⟩ : ∃ m, m = n * 10 + ((s[i]'hil).toNat - 48) := ⟨_, rfl⟩
                rw [← hm1] at hst
                have y3 : IntKind.u8.wrap (((s[i]'hil).toNat : Int) - 48) = (((s[i]'hil).toNat - 48 : Nat) : Int) := by
                  simp [IntKind.wrap, IntKind.bits, IntKind.signed]; omega
                have y4 : IntKind.u64.wrap (((s[i]'hil).toNat - 48 : Nat) : Int) = (((s[i]'hil).toNat - 48 : Nat) : Int) := by
                  simp [IntKind.wrap, IntKind.bits, IntKind.signed]; omega
                have y5 : IntKind.u64.wrap ((n : Int) * 10) = ((n * 10 : Nat) : Int) := by
                  simp [IntKind.wrap, IntKind.bits, IntKind.signed]; omega
                have y6 : IntKind.u64.wrap (((n * 10 : Nat) : Int) + (((s[i]'hil).toNat - 48 : Nat) : Int)) = (m : Int) := by
                  simp [IntKind.wrap, IntKind.bits, IntKind.signed]; omega
                have y7 : IntKind.i64.wrap ((i : Int) + 1) = ((i + 1 : Nat) : Int) := by rw [IntKind.wrap_i64]; omega
                by_cases hmm : most < m
                · rw [if_pos hmm] at hst
                  have HS := hide hst
                  have y8 : (most : Int) < m := by omega
                  clear hst hc1 hc2
                  go_wp2
                  go_ret2
                  exact ⟨by rw [unhide hR, unhide HS]; rfl, rfl⟩
                · rw [if_neg hmm] at hst
                  have HS := hide hst
                  have y8 : ¬ (most : Int) < m := by omega
                  clear hst hc1 hc2
                  go_wp2
                  go_roundg (s.size - i)
                  case measure => omega
                  case rel => exact ⟨m, i + 1, by congr 1; omega, by go_num, by omega, by omega, by omega, rfl, hide (by rw [unhide hR, unhide HS])⟩
          · have hst := dgF_end most s i n (by omega)
            have HS := hide hst
            have y0 : ¬ (i : Int) < s.size := by omega
            clear hst
            go_wp2
            go_ret2
            exact ⟨by rw [unhide hR, unhide HS]; rfl, rfl⟩
end Go.Proofs.YtmlofbgnoaobfaaDoor
