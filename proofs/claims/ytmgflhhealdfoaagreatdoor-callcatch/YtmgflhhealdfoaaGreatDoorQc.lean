import Derived.Test.YtmgflhhealdfoaaGreatDoorQa
import Derived.Test.YtmgflhhealdfoaaGreatDoorQb
import Derived.WalkKit
import Derived.Below
import Derived.Deep.QuietTactic
import Derived.BigQuiet
import Derived.Laws.BitsLemmas
import Derived.WalkSmall
import Derived.LoopTactic
set_option linter.all false
namespace Go.Proofs.YtmgflhhealdfoaaGreatDoor
section
open Go.RowKit Go.Shelf
def hiZ (c : Int) : Bool := decide (55296 ≤ c) && decide (c < 56320)
def loZ (c : Int) : Bool := decide (56320 ≤ c) && decide (c ≤ 57343)
theorem hiZ_nat (c : Nat) : hiZ c = M.isHi c := by
  unfold hiZ M.isHi
  rw [show decide ((55296 : Int) ≤ (c : Int)) = decide (55296 ≤ c) from decide_eq_decide.2 (by omega), show decide ((c : Int) < 56320) = decide (c < 56320) from decide_eq_decide.2 (by omega)]
theorem loZ_nat (c : Nat) : loZ c = M.isLo c := by
  unfold loZ M.isLo
  rw [show decide ((56320 : Int) ≤ (c : Int)) = decide (56320 ≤ c) from decide_eq_decide.2 (by omega), show decide ((c : Int) ≤ 57343) = decide (c ≤ 57343) from decide_eq_decide.2 (by omega)]

theorem isHigh_any (c : Int) (w : World) : Calls Tryz.prog 100 #[.int .i32 c] w fun e w' => e = .returned (.bool (hiZ c)) ∧ w' = w := by
  unfold hiZ
  by_cases h1 : 55296 ≤ c <;> by_cases h2 : c < 56320
  all_goals
    go_enter Tryz.func100, Tryz.ntmps100
    go_wp2
    go_ret
    simp [h1, h2]
theorem isLow_any (c : Int) (w : World) : Calls Tryz.prog 99 #[.int .i32 c] w fun e w' => e = .returned (.bool (loZ c)) ∧ w' = w := by
  unfold loZ
  by_cases h1 : 56320 ≤ c <;> by_cases h2 : c ≤ 57343
  all_goals
    go_enter Tryz.func99, Tryz.ntmps99
    go_wp2
    go_ret
    simp [h1, h2]
def nums (s : ByteArray) : List Nat := s.data.toList.map UInt8.toNat
theorem nums_len (s : ByteArray) : (nums s).length = s.size := by unfold nums; rw [List.length_map]; rfl
theorem nums_lt (s : ByteArray) : ∀ x ∈ nums s, x < 256 := by
  intro x hx; unfold nums at hx; rw [List.mem_map] at hx; obtain ⟨y, _, rfl⟩ := hx; exact y.toNat_lt
theorem nums_get (s : ByteArray) (k : Nat) (h : k < s.size) : (nums s).getD k 0 = (s[k]'h).toNat := by
  have h' : k < s.data.toList.length := h
  unfold nums
  rw [List.getD_eq_getElem?_getD, List.getElem?_map, List.getElem?_eq_getElem h']
  rfl

theorem u8_224 : ∀ n : Fin 256, bits .and .u8 (n.val : Int) 224 = (n.val : Int) / 32 * 32 := by decide +kernel
theorem u8_192 : ∀ n : Fin 256, bits .and .u8 (n.val : Int) 192 = (n.val : Int) / 64 * 64 := by decide +kernel

theorem surr_any (s : ByteArray) (w : World) : Calls Tryz.prog 103 #[.string s] w fun e w' => e = .returned (.tuple #[.int .i32 ((M.surr (nums s)).1 : Nat), .int .i64 ((M.surr (nums s)).2 : Nat)]) ∧ ∃ n, w' = w.drewN n := by
  by_cases h : s.size < 3
  · have e : M.surr (nums s) = (0, 0) := by unfold M.surr; rw [nums_len, if_pos (Or.inl h)]
    rw [e]
    have h' : (s.size : Int) < 3 := by omega
    go_enter Tryz.func103, Tryz.ntmps103
    go_wp2
    go_ret2
    exact ⟨rfl, 0, rfl⟩
  · have hz0 : (0 : Int) < (s.size : Int) := by omega
    have hz1 : (1 : Int) < (s.size : Int) := by omega
    have hz2 : (2 : Int) < (s.size : Int) := by omega
    have h' : ¬ ((s.size : Int) < 3) := by omega
    obtain ⟨x0, hx0⟩ : ∃ x0, s[0]'(by omega) = x0 := ⟨_, rfl⟩
    obtain ⟨x1, hx1⟩ : ∃ x1, s[1]'(by omega) = x1 := ⟨_, rfl⟩
    obtain ⟨x2, hx2⟩ : ∃ x2, s[2]'(by omega) = x2 := ⟨_, rfl⟩
    have g0 : (nums s).getD 0 0 = x0.toNat := by rw [nums_get s 0 (by omega), hx0]
    have g1 : (nums s).getD 1 0 = x1.toNat := by rw [nums_get s 1 (by omega), hx1]
    have g2 : (nums s).getD 2 0 = x2.toNat := by rw [nums_get s 2 (by omega), hx2]
    have hS : M.surr (nums s) = if x0.toNat ≠ 237 ∨ x1.toNat / 32 ≠ 5 ∨ x2.toNat / 64 ≠ 2 then (0, 0) else (55296 + x1.toNat % 32 * 64 + x2.toNat % 64, 3) := by
      unfold M.surr; rw [nums_len, g0, g1, g2]; simp [h]
    clear g0 g1 g2
    rw [hS]; clear hS
    have l0 := x0.toNat_lt; have l1 := x1.toNat_lt; have l2 := x2.toNat_lt
    obtain ⟨n0, hn0⟩ : ∃ n0, x0.toNat = n0 := ⟨_, rfl⟩
    obtain ⟨n1, hn1⟩ : ∃ n1, x1.toNat = n1 := ⟨_, rfl⟩
    obtain ⟨n2, hn2⟩ : ∃ n2, x2.toNat = n2 := ⟨_, rfl⟩
    rw [hn0] at l0; rw [hn1] at l1; rw [hn2] at l2
    rw [hn0, hn1, hn2]
    have q1 : bits .and .u8 (n1 : Int) 224 = (n1 : Int) / 32 * 32 := u8_224 ⟨n1, l1⟩
    have q2 : bits .and .u8 (n2 : Int) 192 = (n2 : Int) / 64 * 64 := u8_192 ⟨n2, l2⟩
    have q3 : bits .and .u8 (n1 : Int) 31 = (n1 : Int) % 32 := u8_and31 _ (by omega) (by omega)
    have q4 : bits .and .u8 (n2 : Int) 63 = (n2 : Int) % 64 := u8_and63 _ (by omega) (by omega)
    by_cases c0 : n0 = 237
    case neg =>
      rw [if_pos (Or.inl c0)]
      have c0' : ((n0 : Int) != 237) = true := by rw [bne_iff_ne]; omega
      go_enter Tryz.func103, Tryz.ntmps103
      go_wp2
      go_ret2
      exact ⟨rfl, 0, rfl⟩
    by_cases c1 : n1 / 32 = 5
    case neg =>
      rw [if_pos (Or.inr (Or.inl c1))]
      have c1' : ((n1 : Int) / 32 * 32 != 160) = true := by rw [bne_iff_ne]; omega
      have c0' : ((n0 : Int) != 237) = false := by rw [bne_eq_false_iff_eq]; omega
      go_enter Tryz.func103, Tryz.ntmps103
      go_wp2
      go_ret2
      exact ⟨rfl, 0, rfl⟩
    have c0' : ((n0 : Int) != 237) = false := by rw [bne_eq_false_iff_eq]; omega
    have c1' : ((n1 : Int) / 32 * 32 != 160) = false := by rw [bne_eq_false_iff_eq]; omega
    by_cases c2 : n2 / 64 = 2
    case neg =>
      rw [if_pos (Or.inr (Or.inr c2))]
      have c2' : ((n2 : Int) / 64 * 64 != 128) = true := by rw [bne_iff_ne]; omega
      go_enter Tryz.func103, Tryz.ntmps103
      go_wp2
      go_ret2
      exact ⟨rfl, 0, rfl⟩
    rw [if_neg (by omega)]
    have c2' : ((n2 : Int) / 64 * 64 != 128) = false := by rw [bne_eq_false_iff_eq]; omega
    have b1 : 0 ≤ (n1 : Int) % 32 := by omega
    have b2 : (n1 : Int) % 32 < 32 := by omega
    have b3 : 0 ≤ (n2 : Int) % 64 := by omega
    have b4 : (n2 : Int) % 64 < 64 := by omega
    clear c0 c1 c2
    go_enter Tryz.func103, Tryz.ntmps103
    go_wp2
    go_quiet (fail)
    go_wp2
    go_ret2
    exact ⟨rfl, nq, rfl⟩

theorem get_nums (s : ByteArray) (k : Nat) : (s.get! k).toNat = (nums s).getD k 0 := by
  by_cases h : k < s.size
  · rw [nums_get s k h]
    have : s.get! k = s[k]'h := by
      cases s with
      | mk d => exact getElem!_pos d k h
    rw [this]
  · have e1 : s.get! k = 0 := by
      cases s with
      | mk d => exact getElem!_neg d k h
    rw [e1, List.getD_eq_getElem?_getD, List.getElem?_eq_none (by rw [nums_len]; omega)]
    rfl
theorem valid_nat (c : Nat) : Utf8.valid (c : Int) = M.okc c := by
  unfold Utf8.valid M.okc
  rw [Bool.eq_iff_iff]
  simp
  omega
set_option maxHeartbeats 1000000 in
theorem decodeGo_nums (s : ByteArray) : Lib.decodeGo s = M.goD (nums s) := by
  unfold Lib.decodeGo M.goD Utf8.decode
  simp only [nums_len, get_nums, Nat.zero_add, Bool.and_eq_true, beq_iff_eq, decide_eq_true_eq, valid_nat, ge_iff_le, Utf8.runeError, and_assoc]

theorem below_drewN' (B : Nat) (w : World) (n : Nat) : Below B w (w.drewN n) := by
  exact below_drewN (Below.refl _ _) n
theorem hide {p : Prop} (h : p) : Hid p := h
theorem unhide {p : Prop} (h : Hid p) : p := h
theorem goD_le (l : List Nat) (hb : ∀ x ∈ l, x < 256) : (M.goD l).1 ≤ 1114111 ∧ (M.goD l).2 ≤ 4 := by
  rcases M.goD_cases l hb with h | ⟨b0, t, hl, h1, hv⟩ | ⟨b0, b1, t, hl, h1, h2, h3, hv⟩ | ⟨b0, b1, b2, t, hl, h1, h2, h3, h4, hv⟩ | ⟨b0, b1, b2, b3, t, hl, h1, h2, h3, h4, h5, h6, hv⟩
  · omega
  all_goals (rw [hv]; dsimp only; omega)
set_option maxHeartbeats 400000 in
theorem decode_any (s : ByteArray) (w : World) (hT : Lib.Utf8Tabs 1 2 w) : Calls Tryz.prog 98 #[.string s] w fun e w' => e = .returned (.tuple #[.int .i32 ((M.dec (nums s)).1 : Nat), .int .i64 ((M.dec (nums s)).2 : Nat)]) ∧ Below w.heap.size w w' := by
  have hD := Tryz.utf8_DecodeRuneInString s w hT
  have hle := goD_le (nums s) (nums_lt s)
  have hS := fun w => surr_any s w
  unfold M.dec
  rw [decodeGo_nums] at hD
  generalize M.goD (nums s) = p at *
  generalize M.surr (nums s) = q at *
  obtain ⟨c, n⟩ := p
  obtain ⟨c', n'⟩ := q
  dsimp only at *
  by_cases h1 : c = 65533
  · by_cases h2 : n ≤ 1
    · rw [if_pos ⟨h1, h2⟩]
      have h1' : ((c : Int) == 65533) = true := by rw [beq_iff_eq]; omega
      have h2' : (n : Int) ≤ 1 := by omega
      clear h1 h2
      have HS := hide hS; clear hS
      have HD := hide hD; clear hD
      go_enter Tryz.func98, Tryz.ntmps98
      go_wp2_with fail
      refine (unhide HD).mono ?_
      rintro e w1 ⟨rfl, hb⟩
      go_wp2_with fail
      refine (unhide HS _).mono ?_
      rintro e w2 ⟨rfl, m, rfl⟩
      go_wp2
      go_ret2
      exact ⟨rfl, hb.trans (below_drewN' _ _ _)⟩
    · rw [if_neg (by omega)]
      have h1' : ((c : Int) == 65533) = true := by rw [beq_iff_eq]; omega
      have h2' : ¬ (n : Int) ≤ 1 := by omega
      clear h1 h2 hS
      have HD := hide hD; clear hD
      go_enter Tryz.func98, Tryz.ntmps98
      go_wp2_with fail
      refine (unhide HD).mono ?_
      rintro e w1 ⟨rfl, hb⟩
      go_wp2
      go_ret2
      exact ⟨rfl, hb⟩
  · rw [if_neg (by omega)]
    have h1' : ((c : Int) == 65533) = false := by rw [beq_eq_false_iff_ne]; omega
    clear h1 hS
    have HD := hide hD; clear hD
    go_enter Tryz.func98, Tryz.ntmps98
    go_wp2_with fail
    refine (unhide HD).mono ?_
    rintro e w1 ⟨rfl, hb⟩
    go_wp2
    go_ret2
    exact ⟨rfl, hb⟩
def strLen : Value → Nat
  | .string s => s.size
  | _ => 0
theorem tabs_below {w w' : World} (h : Lib.Utf8Tabs 1 2 w) (hb : Below w.heap.size w w') : Lib.Utf8Tabs 1 2 w' := Utf8Tabs_below h hb

theorem nums_extract (u : ByteArray) (n : Nat) : nums (u.extract n u.size) = (nums u).drop n := by
  unfold nums
  rw [ByteArray.data_extract, Array.toList_extract, ← List.map_drop]
  congr 1
  rw [List.extract_eq_take_drop, List.take_of_length_le]
  rw [List.length_drop]; exact Nat.le_refl _
theorem size_extract (u : ByteArray) (n : Nat) : (u.extract n u.size).size = u.size - n := by
  rw [← nums_len, nums_extract, List.length_drop, nums_len]
set_option maxHeartbeats 400000 in
theorem valid_any (s : ByteArray) (w : World) (hT : Lib.Utf8Tabs 1 2 w) : Calls Tryz.prog 94 #[.string s] w fun e w' => e = .returned (.bool (M.valid false (nums s))) ∧ Below w.heap.size w w' := by
  have HT := hide hT; clear hT
  go_enter Tryz.func94, Tryz.ntmps94
  go_wp2
  go_loopw [0, 3] (fun t b wr => ∃ (u : ByteArray) (h : Bool), t = .string u ∧ b = .bool h ∧ M.valid false (nums s) = M.valid h (nums u) ∧ Below w.heap.size w wr) (fun t _ _ => strLen t)
  case atStart => exact ⟨s, false, rfl, rfl, rfl, Below.refl _ _⟩
  case round =>
    obtain ⟨u, h, rfl, rfl, hv, hB⟩ := hrel
    have HV := hide hv; clear hv
    have hNE : nums u = [] ↔ u.size = 0 := by rw [← nums_len, List.length_eq_zero_iff]
    cases hE : u.toList.isEmpty with
    | true =>
      have hz : nums u = [] := by
        rw [hNE, ByteArray.size, ← Array.length_toList, List.length_eq_zero_iff]
        simpa [Lib.toList_data] using hE
      go_wp2
      go_ret
      refine ⟨?_, hB⟩
      rw [unhide HV, hz]; rfl
    | false =>
      have hz : nums u ≠ [] := by
        intro e
        rw [hNE, ByteArray.size, ← Array.length_toList, List.length_eq_zero_iff] at e
        simp [Lib.toList_data, e] at hE
      have hst := M.valid_step h (nums u) hz
      have hinv := M.dec_inv (nums u) (nums_lt u)
      have hdc := decode_any u wr (tabs_below (unhide HT) hB)
      generalize M.dec (nums u) = p at *
      obtain ⟨c, n⟩ := p
      dsimp only at *
      have HD := hide hdc; clear hdc
      have HS := hide hst; clear hst
      have HN := hide hNE; clear hNE
      have HZ := hide hz; clear hz
      by_cases hn : n = 0
      · have HI := hide hinv; clear hinv
        have hn' : ((n : Int) == 0) = true := by rw [beq_iff_eq]; omega
        go_wp2_with fail
        refine (unhide HD).mono ?_
        rintro e w1 ⟨rfl, hb⟩
        go_wp2
        go_ret
        refine ⟨?_, hB.trans (hb.mono hB.size)⟩
        rw [unhide HV, unhide HS, hn]; rfl
      · obtain ⟨d1, d2, d3⟩ := hinv hn
        have hn' : ((n : Int) == 0) = false := by rw [beq_eq_false_iff_ne]; omega
        have hnle : n ≤ u.size := by
          have := congrArg List.length d2
          rw [List.length_append, nums_len] at this; omega
        have h1n : (1 : Int) ≤ (n : Int) := by omega
        have hnle' : (n : Int) ≤ (u.size : Int) := by omega
        have D2 := hide d2; clear d2
        have D3 := hide d3; clear d3
        clear hinv
        have hsz := size_extract u n
        have HZ2 := hide hsz; clear hsz
        have fin : ∀ (w2 : World), Below wr.heap.size wr w2 → (decide (n = 0) || h && M.isLo c) = false → (∃ (u_1 : ByteArray) (h : Bool),
            Value.string (u.extract n u.size) = Value.string u_1 ∧ Value.bool (hiZ ↑c) = Value.bool h ∧ M.valid false (nums s) = M.valid h (nums u_1) ∧ Below w.heap.size w w2) ∧
            strLen (Value.string (u.extract n u.size)) < strLen (Value.string u) := by
          intro w2 hb he
          refine ⟨⟨u.extract n u.size, M.isHi c, rfl, by rw [hiZ_nat], ?_, hB.trans (hb.mono hB.size)⟩, ?_⟩
          · rw [unhide HV, unhide HS, he, nums_extract]; simp
          · simp only [strLen]; rw [unhide HZ2]; omega
        have FIN := hide fin; clear fin
        cases h with
        | true =>
          go_wp2_with fail
          refine (unhide HD).mono ?_
          rintro e w1 ⟨rfl, hb⟩
          go_wp2_with fail
          refine (isLow_any _ _).mono ?_
          rintro e w2 ⟨rfl, rfl⟩
          rw [loZ_nat]
          cases hl : M.isLo c with
          | true =>
            go_wp2
            go_ret
            refine ⟨?_, hB.trans (hb.mono hB.size)⟩
            rw [unhide HV, unhide HS, hl]; simp
          | false =>
            go_wp2_with fail
            refine (isHigh_any _ _).mono ?_
            rintro e w3 ⟨rfl, rfl⟩
            go_wp2
            exact unhide FIN _ hb (by simp [hl, hn])
        | false =>
          go_wp2_with fail
          refine (unhide HD).mono ?_
          rintro e w1 ⟨rfl, hb⟩
          go_wp2_with fail
          refine (isHigh_any _ _).mono ?_
          rintro e w2 ⟨rfl, rfl⟩
          go_wp2
          exact unhide FIN _ hb (by simp [hn])
