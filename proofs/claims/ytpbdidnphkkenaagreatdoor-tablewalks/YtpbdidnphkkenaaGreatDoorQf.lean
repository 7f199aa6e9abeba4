import Derived.Test.YtpbdidnphkkenaaGreatDoorQe
import Derived.Shelf.Small.Wraps
import Derived.Shelf.LaysM
import Derived.Shelf.Strconv.Clone
set_option linter.all false
namespace Go.Proofs.YtpbdidnphkkenaaGreatDoor
section
open Go Go.Proofs Go.RowKit
theorem one_str (s : ByteArray) (hp : 0 < s.size) (h : ((s[0]'hp).toNat : Int) = 48) : (s.toList == [48]) = decide (s.size = 1) := by
  have hl : s.toList.length = s.size := by rw [Lib.toList_data]; rfl
  have h0 : s.toList[0]? = some 48 := by
    rw [Lib.toList_data, Array.getElem?_toList, Array.getElem?_eq_getElem (h := hp)]
    congr 1
    exact UInt8.toNat_inj.1 (by show (s[0]'hp).toNat = 48; omega)
  rw [← hl]
  cases e : s.toList with
  | nil => rw [e] at h0; cases h0
  | cons c r =>
    rw [e] at h0
    simp only [List.getElem?_cons_zero, Option.some.injEq] at h0
    subst h0
    cases r <;> simp
set_option maxHeartbeats 2000000 in
set_option maxRecDepth 100000 in
theorem upTo49 (s : ByteArray) (most : Nat) (hs : s.size < 4611686018427387904) (hm : most ≤ 9007199254740991) (w : World) : Calls Tryz.prog 83 #[.int .i64 (most : Nat), .string s] w fun e w' => e = .returned (.tuple #[.int .i64 ((dgV most (nums s)).getD 0 : Nat), .bool (dgV most (nums s)).isSome]) ∧ w' = w := by
  have hE : (s.toList.isEmpty = true) ↔ s.size = 0 := by
    rw [ByteArray.size, ← Array.length_toList, List.length_eq_zero_iff]
    simp [Lib.toList_data]
  go_enter Tryz.func83, Tryz.ntmps83
  by_cases h0 : s.size = 0
  · have hv := dgV_nil most s h0
    have he := hE.2 h0
    have hz : (s.size : Int) = 0 := by omega
    clear hE
    go_wp2
    go_ret2
    exact ⟨by rw [hv]; rfl, rfl⟩
  · have hp : 0 < s.size := by omega
    have hv := dgV_cons most s hp
    have he : s.toList.isEmpty = false := by
      cases h : s.toList.isEmpty
      · rfl
      · exact absurd (hE.1 h) h0
    clear hE
    have z0 : (0 : Int) < s.size := by omega
    by_cases hz : (s.get! 0).toNat = 48 ∧ 1 < s.size
    · rw [if_pos hz] at hv
      obtain ⟨hz1, hz2⟩ := hz
      have z1 : (1 : Int) < s.size := by omega
      have z2 : ((s[0]'hp).toNat : Int) = 48 := by rw [← get_at s 0 hp]; omega
      clear hz1
      have q1 : (s.toList == [48]) = false := by rw [one_str s hp z2]; exact decide_eq_false (by omega)
      go_wp2
      go_ret2
      exact ⟨by rw [hv]; rfl, rfl⟩
    · rw [if_neg hz] at hv
      have HV := hide hv
      clear hv
      have hc3 : (¬ ((s[0]'hp).toNat : Int) = 48) ∨ (¬ 1 < s.size ∧ ((s[0]'hp).toNat : Int) = 48) := by
        rw [← get_at s 0 hp]; omega
      clear hz
      rcases hc3 with z2 | ⟨h1, z2⟩
      · have h1 := trivial
        have q1 := trivial
        have z1 := trivial
        go_wp2_with fail
        go_loopg [6, 21] (s.size + 1) (fun g s6 s21 wr => ∃ (n i : Nat), s6 = .int .i64 n ∧ s21 = .int .i64 i ∧ i ≤ s.size ∧ s.size - i < g ∧ n ≤ most ∧ wr = w ∧ Hid (dgV most (nums s) = dgF most ((nums s).drop i) n))
        case atStart => exact ⟨0, 0, rfl, rfl, Nat.zero_le _, by omega, Nat.zero_le _, rfl, HV⟩
        case round =>
          obtain ⟨n, i, rfl, rfl, hi, hg, hn, rfl, hR⟩ := hrel
          clear z0 z1 z2 h1 q1
          by_cases hil : i < s.size
          · have hst := dgF_step most s i n hil
            rw [get_at s i hil] at hst
            have y0 : (i : Int) < s.size := by omega
            have hcl := (s[i]'hil).toNat_lt
            by_cases hc1 : (s[i]'hil).toNat < 48
            · rw [if_pos (Or.inl hc1)] at hst
              have HS := hide hst
              have y1 : ((s[i]'hil).toNat : Int) < 48 := by omega
              clear hst hc1
              go_wp2
              go_ret2
              exact ⟨by rw [unhide hR, unhide HS]; rfl, rfl⟩
            · have y1 : ¬ ((s[i]'hil).toNat : Int) < 48 := by omega
              by_cases hc2 : 57 < (s[i]'hil).toNat
              · rw [if_pos (Or.inr hc2)] at hst
                have HS := hide hst
                have y2 : (57 : Int) < ((s[i]'hil).toNat : Int) := by omega
                clear hst hc1 hc2
                go_wp2
                go_ret2
                exact ⟨by rw [unhide hR, unhide HS]; rfl, rfl⟩
              · rw [if_neg (by omega)] at hst
                have y2 : ¬ (57 : Int) < ((s[i]'hil).toNat : Int) := by omega
                obtain ⟨m, hm1⟩ : ∃ m, m = n * 10 + ((s[i]'hil).toNat - 48) := ⟨_, rfl⟩
                rw [← hm1] at hst
                have y3 : IntKind.u8.wrap (((s[i]'hil).toNat : Int) - 48) = (((s[i]'hil).toNat - 48 : Nat) : Int) := by
                  simp [IntKind.wrap, IntKind.bits, IntKind.signed]; omega
                have y4 : IntKind.i64.wrap (((s[i]'hil).toNat - 48 : Nat) : Int) = (((s[i]'hil).toNat - 48 : Nat) : Int) := by
                  rw [IntKind.wrap_i64]; omega
                have y5 : IntKind.i64.wrap (10 * (n : Int)) = ((10 * n : Nat) : Int) := by
                  rw [IntKind.wrap_i64]; omega
                have y6 : IntKind.i64.wrap (((10 * n : Nat) : Int) + (((s[i]'hil).toNat - 48 : Nat) : Int)) = (m : Int) := by
                  rw [IntKind.wrap_i64]; omega
                have y7 : IntKind.i64.wrap ((i : Int) + 1) = ((i + 1 : Nat) : Int) := by rw [IntKind.wrap_i64]; omega
                by_cases hmm : most < m
                · rw [if_pos hmm] at hst
                  have HS := hide hst
                  have y8 : (most : Int) < m := by omega
                  clear hst hc1 hc2
                  go_wp2
                  go_ret2
                  exact ⟨by rw [unhide hR, unhide HS]; rfl, rfl⟩
                · rw [if_neg hmm] at hst
                  have HS := hide hst
                  have y8 : ¬ (most : Int) < m := by omega
                  clear hst hc1 hc2
                  go_wp2
                  go_roundg (s.size - i)
                  case measure => omega
                  case rel => exact ⟨m, i + 1, by congr 1; omega, by go_num, by omega, by omega, by omega, rfl, hide (by rw [unhide hR, unhide HS])⟩
          · have hst := dgF_end most s i n (by omega)
            have HS := hide hst
            have y0 : ¬ (i : Int) < s.size := by omega
            clear hst
            go_wp2
            go_ret2
            exact ⟨by rw [unhide hR, unhide HS]; rfl, rfl⟩
      · have q1 : (s.toList == [48]) = true := by rw [one_str s hp z2]; exact decide_eq_true (by omega)
        have z1 := trivial
        go_wp2_with fail
        go_loopg [6, 21] (s.size + 1) (fun g s6 s21 wr => ∃ (n i : Nat), s6 = .int .i64 n ∧ s21 = .int .i64 i ∧ i ≤ s.size ∧ s.size - i < g ∧ n ≤ most ∧ wr = w ∧ Hid (dgV most (nums s) = dgF most ((nums s).drop i) n))
        case atStart => exact ⟨0, 0, rfl, rfl, Nat.zero_le _, by omega, Nat.zero_le _, rfl, HV⟩
        case round =>
          obtain ⟨n, i, rfl, rfl, hi, hg, hn, rfl, hR⟩ := hrel
          clear z0 z1 z2 h1 q1
          by_cases hil : i < s.size
          · have hst := dgF_step most s i n hil
            rw [get_at s i hil] at hst
            have y0 : (i : Int) < s.size := by omega
            have hcl := (s[i]'hil).toNat_lt
            by_cases hc1 : (s[i]'hil).toNat < 48
            · rw [if_pos (Or.inl hc1)] at hst
              have HS := hide hst
              have y1 : ((s[i]'hil).toNat : Int) < 48 := by omega
              clear hst hc1
              go_wp2
              go_ret2
              exact ⟨by rw [unhide hR, unhide HS]; rfl, rfl⟩
            · have y1 : ¬ ((s[i]'hil).toNat : Int) < 48 := by omega
              by_cases hc2 : 57 < (s[i]'hil).toNat
              · rw [if_pos (Or.inr hc2)] at hst
                have HS := hide hst
                have y2 : (57 : Int) < ((s[i]'hil).toNat : Int) := by omega
                clear hst hc1 hc2
                go_wp2
                go_ret2
                exact ⟨by rw [unhide hR, unhide HS]; rfl, rfl⟩
              · rw [if_neg (by omega)] at hst
                have y2 : ¬ (57 : Int) < ((s[i]'hil).toNat : Int) := by omega
                obtain ⟨m, hm1⟩ : ∃ m, m = n * 10 + ((s[i]'hil).toNat - 48) := ⟨_, rfl⟩
                rw [← hm1] at hst
                have y3 : IntKind.u8.wrap (((s[i]'hil).toNat : Int) - 48) = (((s[i]'hil).toNat - 48 : Nat) : Int) := by
                  simp [IntKind.wrap, IntKind.bits, IntKind.signed]; omega
                have y4 : IntKind.i64.wrap (((s[i]'hil).toNat - 48 : Nat) : Int) = (((s[i]'hil).toNat - 48 : Nat) : Int) := by
                  rw [IntKind.wrap_i64]; omega
                have y5 : IntKind.i64.wrap (10 * (n : Int)) = ((10 * n : Nat) : Int) := by
                  rw [IntKind.wrap_i64]; omega
                have y6 : IntKind.i64.wrap (((10 * n : Nat) : Int) + (((s[i]'hil).toNat - 48 : Nat) : Int)) = (m : Int) := by
                  rw [IntKind.wrap_i64]; omega
                have y7 : IntKind.i64.wrap ((i : Int) + 1) = ((i + 1 : Nat) : Int) := by rw [IntKind.wrap_i64]; omega
                by_cases hmm : most < m
                · rw [if_pos hmm] at hst
                  have HS := hide hst
                  have y8 : (most : Int) < m := by omega
                  clear hst hc1 hc2
                  go_wp2
                  go_ret2
                  exact ⟨by rw [unhide hR, unhide HS]; rfl, rfl⟩
                · rw [if_neg hmm] at hst
                  have HS := hide hst
                  have y8 : ¬ (most : Int) < m := by omega
                  clear hst hc1 hc2
                  go_wp2
                  go_roundg (s.size - i)
                  case measure => omega
                  case rel => exact ⟨m, i + 1, by congr 1; omega, by go_num, by omega, by omega, by omega, rfl, hide (by rw [unhide hR, unhide HS])⟩
          · have hst := dgF_end most s i n (by omega)
            have HS := hide hst
            have y0 : ¬ (i : Int) < s.size := by omega
            clear hst
            go_wp2
            go_ret2
            exact ⟨by rw [unhide hR, unhide HS]; rfl, rfl⟩
/-- The number of an array index. -/
def ixOf (l : List Nat) : Option Nat := dgV 4294967294 l
theorem ixOf_le (l : List Nat) (m : Nat) (h : ixOf l = some m) : m ≤ 4294967294 := dgV_le _ _ _ h
set_option maxRecDepth 100000 in
theorem index34 (s : ByteArray) (hs : s.size < 4611686018427387904) (w : World) : Calls Tryz.prog 72 #[.string s] w fun e w' => e = .returned (.tuple #[.int .u32 ((ixOf (nums s)).getD 0 : Nat), .bool (ixOf (nums s)).isSome]) ∧ w' = w := by
  have HC := hide (upTo49 s 4294967294 hs (by omega) w)
  have z1 : IntKind.u32.wrap ((ixOf (nums s)).getD 0 : Nat) = ((ixOf (nums s)).getD 0 : Nat) := by
    have : (ixOf (nums s)).getD 0 ≤ 4294967294 := by
      cases h : ixOf (nums s) with
      | none => simp
      | some m => exact ixOf_le _ _ h
    simp [IntKind.wrap, IntKind.bits, IntKind.signed]; omega
  change Hid (Calls Tryz.prog 83 #[.int .i64 4294967294, .string s] w fun e w' => e = .returned (.tuple #[.int .i64 ((ixOf (nums s)).getD 0 : Nat), .bool (ixOf (nums s)).isSome]) ∧ w' = w) at HC
  generalize (ixOf (nums s)).getD 0 = m at *
  generalize (ixOf (nums s)).isSome = b at *
  go_enter Tryz.func72, Tryz.ntmps72
  go_wp2_with fail
  refine (unhide HC).mono ?_
  rintro e w' ⟨rfl, rfl⟩
  go_wp2
  go_ret2
  exact ⟨rfl, rfl⟩
set_option maxRecDepth 100000 in
theorem index17 (s : ByteArray) (hs : s.size < 4611686018427387904) (w : World) : Calls Tryz.prog 63 #[.string s] w fun e w' => e = .returned (.tuple #[.int .u32 ((ixOf (nums s)).getD 0 : Nat), .bool (ixOf (nums s)).isSome]) ∧ w' = w := by
  have HC := hide (digits28 s 4294967294 hs (by omega) w)
  have z1 : IntKind.u32.wrap ((ixOf (nums s)).getD 0 : Nat) = ((ixOf (nums s)).getD 0 : Nat) := by
    have : (ixOf (nums s)).getD 0 ≤ 4294967294 := by
      cases h : ixOf (nums s) with
      | none => simp
      | some m => exact ixOf_le _ _ h
    simp [IntKind.wrap, IntKind.bits, IntKind.signed]; omega
  change Hid (Calls Tryz.prog 77 #[.string s, .int .u64 4294967294] w fun e w' => e = .returned (.tuple #[.int .u64 ((ixOf (nums s)).getD 0 : Nat), .bool (ixOf (nums s)).isSome]) ∧ w' = w) at HC
  generalize (ixOf (nums s)).getD 0 = m at *
  generalize (ixOf (nums s)).isSome = b at *
  go_enter Tryz.func63, Tryz.ntmps63
  go_wp2_with fail
  refine (unhide HC).mono ?_
  rintro e w' ⟨rfl, rfl⟩
  go_wp2
  go_ret2
  exact ⟨rfl, rfl⟩
theorem below_alloc1 (w : World) (o : Obj) : Below w.heap.size w (w.alloc o) := (Below.refl _ _).alloc (Nat.le_refl _) _
def keyV (s : ByteArray) (n : Int) : Value := .agg #[.string s, .int .i64 n]
def kdOf (s : ByteArray) (n : Int) : Int := if n = 0 then (if (ixOf (nums s)).isSome then 0 else 1) else 2
def knOf (s : ByteArray) (n : Int) : Nat := if n = 0 then ((ixOf (nums s)).getD 0) else 0
set_option maxRecDepth 100000 in
theorem kindOf22 (s : ByteArray) (n : Int) (hs : s.size < 4611686018427387904) (w : World) : Calls Tryz.prog 59 #[keyV s n] w fun e w' => e = .returned (.tuple #[.int .i64 (kdOf s n), .int .u32 (knOf s n : Nat)]) ∧ Below w.heap.size w w' := by
  have HC := hide (index34 s hs)
  unfold keyV
  by_cases hn : n = 0
  · subst hn
    have e1 : kdOf s 0 = if (ixOf (nums s)).isSome then 0 else 1 := by unfold kdOf; rw [if_pos rfl]
    have e2 : knOf s 0 = (ixOf (nums s)).getD 0 := by unfold knOf; rw [if_pos rfl]
    rw [e1, e2]
    clear e1 e2
    generalize ixOf (nums s) = o at *
    go_enter Tryz.func59, Tryz.ntmps59
    go_wp2_with fail
    refine (unhide HC _).mono ?_
    rintro e w' ⟨rfl, rfl⟩
    cases o with
    | none =>
      go_wp2
      go_ret2
      exact ⟨rfl, below_alloc1 _ _⟩
    | some m =>
      go_wp2
      go_ret2
      exact ⟨rfl, below_alloc1 _ _⟩
  · have e1 : kdOf s n = 2 := by unfold kdOf; rw [if_neg hn]
    have e2 : knOf s n = 0 := by unfold knOf; rw [if_neg hn]
    rw [e1, e2]
    go_enter Tryz.func59, Tryz.ntmps59
    go_wp2
    go_ret2
    exact ⟨rfl, below_alloc1 _ _⟩
set_option maxRecDepth 100000 in
theorem rank15 (s : ByteArray) (n : Int) (hs : s.size < 4611686018427387904) (w : World) : Calls Tryz.prog 52 #[keyV s n] w fun e w' => e = .returned (.int .i64 (kdOf s n)) ∧ Below w.heap.size w w' := by
  have HC := hide (index17 s hs)
  unfold keyV
  by_cases hn : n = 0
  · subst hn
    have e1 : kdOf s 0 = if (ixOf (nums s)).isSome then 0 else 1 := by unfold kdOf; rw [if_pos rfl]
    rw [e1]
    clear e1
    generalize ixOf (nums s) = o at *
    go_enter Tryz.func52, Tryz.ntmps52
    go_wp2_with fail
    refine (unhide HC _).mono ?_
    rintro e w' ⟨rfl, rfl⟩
    cases o with
    | none =>
      go_wp2
      go_ret
      exact ⟨rfl, below_alloc1 _ _⟩
    | some m =>
      go_wp2
      go_ret
      exact ⟨rfl, below_alloc1 _ _⟩
  · have e1 : kdOf s n = 2 := by unfold kdOf; rw [if_neg hn]
    rw [e1]
    go_enter Tryz.func52, Tryz.ntmps52
    go_wp2
    go_ret
    exact ⟨rfl, below_alloc1 _ _⟩
end
end Go.Proofs.YtpbdidnphkkenaaGreatDoor
/-
  THE SHELF's CONTRACTS for cmp.Compare at int and for internal/stringslite.Clone, laid at this program in plain words (by lay-plain.mjs).
-/
namespace Go.Proofs
open Go.Shelf
def Tryz.laysM316_ren : Go.Shelf.Ren := ⟨fun | 316 => 84 | n => n, fun | 9 => 9 | 3 => 3 | 4 => 4 | 37 => 133 | 0 => 0 | 127 => 166 | 5 => 5 | n => n, fun | n => n⟩
theorem Tryz.laysM316 : Go.Proofs.LaysM.n316 Tryz.prog Tryz.laysM316_ren := {
  mixed := by kernel_rfl
  f316 := Tryz.func84.trans (congrArg some (by kernel_rfl))
  t0 := Tryz.underlying0
  a0 := Tryz.isAgg0
  z0 := Tryz.sizeOf0
  v0 := Tryz.zeroValue0
  t3 := Tryz.underlying3
  a3 := Tryz.isAgg3
  z3 := Tryz.sizeOf3
  v3 := Tryz.zeroValue3
  t4 := Tryz.underlying4
  a4 := Tryz.isAgg4
  z4 := Tryz.sizeOf4
  v4 := Tryz.zeroValue4
  t9 := Tryz.underlying9
  a9 := Tryz.isAgg9
  z9 := Tryz.sizeOf9
  v9 := Tryz.zeroValue9
  t37 := Tryz.underlying133
  a37 := Tryz.isAgg133
  z37 := Tryz.sizeOf133
  v37 := Tryz.zeroValue133
  t127 := Tryz.underlying166
  a127 := Tryz.isAgg166
  z127 := Tryz.sizeOf166
  v127 := Tryz.zeroValue166
  t5 := Tryz.underlying5
  a5 := Tryz.isAgg5
  z5 := Tryz.sizeOf5
  v5 := Tryz.zeroValue5
  i0 := by kernel_rfl
  i3 := by kernel_rfl
  i4 := by kernel_rfl
  i5 := by kernel_rfl
  i9 := by kernel_rfl
  i37 := by kernel_rfl
  i127 := by kernel_rfl }
open Go.RowKit in
/-- internal/stringslite.Clone (what strings.Clone calls): "Clone returns a fresh copy of s.": THE SAME BYTES. Of what was there nothing has turned (a new row is laid, and frozen, where s is not empty). (LAID: no walk: one application.) -/
theorem Tryz.stringslite_Clone (s : ByteArray) (w : World) (hlim : s.size ≤ 281474976710656) :
    Calls Tryz.prog 84 #[.string s] w fun e w' => e = .returned (.string s) ∧ Below w.heap.size w w' := Any.stringslite_Clone Tryz.laysM316 s w hlim
end Go.Proofs
namespace Go.Proofs.YtpbdidnphkkenaaGreatDoor
section
open Go.RowKit
theorem bits_run (b : Nat) (w : World) : (callFunc 48 #[.float .f64 b]).run Tryz.prog w = .ok (.value (.int .u64 (b : Int))) w := by
  rw [run_callFunc_extern Tryz.func48 (by kernel_rfl) (by kernel_rfl) (by kernel_rfl) (e := Extern.MathFloatBits.float64bits) (by kernel_rfl)]; rfl
attribute [local go_sem] bits_run

/-- A value of the program, field by field. -/
structure VV where
  k : Int
  b : Bool
  x : Nat
  s : ByteArray
  i : Int
def VV.agg (v : VV) : Value := .agg #[.int .i64 v.k, .bool v.b, .float .f64 v.x, .string v.s, .int .i64 v.i]
def VV.ifc (v : VV) : Value :=
  if v.k = 1 then .iface 124 (.agg #[]) else if v.k = 2 then .iface 125 (.agg #[]) else if v.k = 3 then .iface 126 (.bool v.b) else if v.k = 4 then .iface 127 (.float .f64 v.x)
  else if v.k = 5 then .iface 128 (.string v.s) else if v.k = 6 then .iface 129 (.int .i64 v.i) else .iface 130 (.int .i64 v.i)
def strV (k : Int) (b : Bool) (x : Nat) (s : ByteArray) (i : Int) : Bool :=
  b && k != 3 || x != 0 && k != 4 || !s.toList.isEmpty && k != 5 || i != 0 && k != 6 && k != 7

set_option maxHeartbeats 1000000 in
theorem strays_any (k : Int) (b : Bool) (x : Nat) (s : ByteArray) (i : Int) (w : World) :
    Calls Tryz.prog 66 #[.agg #[.int .i64 k, .bool b, .float .f64 x, .string s, .int .i64 i]] w fun e w' => e = .returned (.bool (strV k b x s i)) ∧ Below w.heap.size w w' := by
  unfold strV
  cases b
  all_goals
    go_enter Tryz.func66, Tryz.ntmps66
    go_wp2
    all_goals
      go_ret
      refine ⟨?_, (Below.refl _ _).alloc (Nat.le_refl _) _⟩
      simp [*]
def fitV (s : ByteArray) : Bool := decide (s.size ≤ 1048576) && M.valid false (nums s)
theorem fits_any (s : ByteArray) (w : World) (hT : Lib.Utf8Tabs 2 3 w) :
    Calls Tryz.prog 67 #[.string s] w fun e w' => e = .returned (.bool (fitV s)) ∧ Below w.heap.size w w' := by
  have HV := hide (valid_any s w hT)
  clear hT
  unfold fitV
  by_cases h : s.size ≤ 1048576
  · have h' : (s.size : Int) ≤ 1048576 := by omega
    go_enter Tryz.func67, Tryz.ntmps67
    go_wp2_with fail
    refine (unhide HV).mono ?_
    rintro e w1 ⟨rfl, hb⟩
    go_wp2
    go_ret
    refine ⟨?_, hb⟩
    rw [decide_eq_true h]
    rfl
  · have h' : ¬ (s.size : Int) ≤ 1048576 := by omega
    go_enter Tryz.func67, Tryz.ntmps67
    go_wp2
    go_ret
    exact ⟨rfl, Below.refl _ _⟩
def inG (st ft : Bool) (k i : Int) : Bool :=
  !st && (k == 1 || k == 2 || k == 3 || k == 4 || k == 5 && ft || k == 6 && decide (1 ≤ i) && decide (i ≤ 65536) || k == 7 && decide (1 ≤ i) && decide (i ≤ 65536))
def inI (st ft : Bool) (v : VV) : Value := if inG st ft v.k v.i then v.ifc else .nilIface
def goodV (k : Int) (b : Bool) (x : Nat) (s : ByteArray) (i : Int) : Bool := inG (strV k b x s i) (fitV s) k i
def ifcV (v : VV) : Value := inI (strV v.k v.b v.x v.s v.i) (fitV v.s) v
def VV.good (v : VV) : Bool := goodV v.k v.b v.x v.s v.i
/-- A block of five cells, and a call that kept it. -/
theorem five {w w1 : World} {c0 c1 c2 c3 c4 : Value} {t : TypeId} (hb : Below (w.alloc (Obj.cells #[c0, c1, c2, c3, c4] t)).heap.size (w.alloc (Obj.cells #[c0, c1, c2, c3, c4] t)) w1) :
    w1.cell? ⟨w.heap.size, 0, none⟩ = some c0 ∧ w1.cell? ⟨w.heap.size, 1, none⟩ = some c1 ∧ w1.cell? ⟨w.heap.size, 2, none⟩ = some c2 ∧ w1.cell? ⟨w.heap.size, 3, none⟩ = some c3 ∧ w1.cell? ⟨w.heap.size, 4, none⟩ = some c4 ∧
    Below w.heap.size w w1 ∧ w.heap.size < w1.heap.size := by
  have h0 := hb.cell (p := ⟨w.heap.size, 0, none⟩) (by simp)
  have h1 := hb.cell (p := ⟨w.heap.size, 1, none⟩) (by simp)
  have h2 := hb.cell (p := ⟨w.heap.size, 2, none⟩) (by simp)
  have h3 := hb.cell (p := ⟨w.heap.size, 3, none⟩) (by simp)
  have h4 := hb.cell (p := ⟨w.heap.size, 4, none⟩) (by simp)
  simp [go_sem] at h0 h1 h2 h3 h4
  refine ⟨h0, h1, h2, h3, h4, ((Below.refl _ _).alloc (Nat.le_refl _) _).trans (hb.mono (by simp)), ?_⟩
  have := hb.size
  simp at this
  omega
set_option maxHeartbeats 1000000 in
theorem inside_any (k : Int) (b : Bool) (x : Nat) (s : ByteArray) (i : Int) (w : World) (hT : Lib.Utf8Tabs 2 3 w) :
    Calls Tryz.prog 54 #[.agg #[.int .i64 k, .bool b, .float .f64 x, .string s, .int .i64 i]] w fun e w' => e = .returned (.tuple #[ifcV ⟨k, b, x, s, i⟩, .bool (goodV k b x s i)]) ∧ Below w.heap.size w w' := by
  have HS := hide (fun w => strays_any k b x s i w)
  have HF := hide (fun w (hT : Lib.Utf8Tabs 2 3 w) => fits_any s w hT)
  have HT := hide hT
  clear hT
  unfold goodV ifcV
  dsimp only
  generalize strV k b x s i = st at *
  generalize fitV s = ft at *
  cases st
  · by_cases e5 : k = 5
    · subst e5
      go_enter Tryz.func54, Tryz.ntmps54
      go_wp2_with fail
      refine (unhide HS _).mono ?_
      rintro e w1 ⟨rfl, hb⟩
      obtain ⟨c0, c1, c2, c3, c4, hB, hsz⟩ := five hb
      clear hb
      go_wp2_with fail
      refine (unhide HF _ (tabs_below (unhide HT) hB)).mono ?_
      rintro e w2 ⟨rfl, hb2⟩
      have d3 := hb2.cell (p := ⟨w.heap.size, 3, none⟩) hsz
      rw [c3] at d3
      cases ft
      · have d0 := hb2.cell (p := ⟨w.heap.size, 0, none⟩) hsz
        rw [c0] at d0
        go_wp2
        go_ret2
        exact ⟨by simp [inG, inI], hB.trans (hb2.mono hB.size)⟩
      · go_wp2
        go_ret2
        exact ⟨by simp [inG, inI, VV.ifc], hB.trans (hb2.mono hB.size)⟩
    · have hk : k = 1 ∨ k = 2 ∨ k = 3 ∨ k = 4 ∨ k = 6 ∨ k = 7 ∨ (k == 1) = false ∧ (k == 2) = false ∧ (k == 3) = false ∧ (k == 4) = false ∧ (k == 5) = false ∧ (k == 6) = false ∧ (k == 7) = false := by
        simp only [beq_eq_false_iff_ne]
        omega
      clear e5 HF HT
      rcases hk with rfl | rfl | rfl | rfl | rfl | rfl | ⟨e1, e2, e3, e4, e5, e6, e7⟩
      all_goals
        go_enter Tryz.func54, Tryz.ntmps54
        go_wp2_with fail
        refine (unhide HS _).mono ?_
        rintro e w1 ⟨rfl, hb⟩
        obtain ⟨c0, c1, c2, c3, c4, hB, hsz⟩ := five hb
        clear hb HS
        go_wp2
        all_goals
          go_ret2
          refine ⟨?_, hB⟩
          simp [inG, inI, VV.ifc, *]
          try omega
  · go_enter Tryz.func54, Tryz.ntmps54
    go_wp2_with fail
    refine (unhide HS _).mono ?_
    rintro e w1 ⟨rfl, hb⟩
    obtain ⟨c0, c1, c2, c3, c4, hB, hsz⟩ := five hb
    go_wp2
    go_ret2
    exact ⟨by simp [inG, inI], hB⟩
theorem empty_of {s : ByteArray} (h : s.toList.isEmpty = true) : s = ByteArray.empty := by
  cases s with
  | mk d =>
    rw [Lib.toList_data] at h
    have : d.toList = [] := by simpa using h
    have h2 : d = #[] := Array.toList_inj.1 (by simpa using this)
    subst h2; rfl
theorem clone_any (s : ByteArray) (w : World) (h : s.size ≤ 1048576) : Calls Tryz.prog 73 #[.string s] w fun e w' => e = .returned (.string s) ∧ Below w.heap.size w w' := by
  have HC := hide (Tryz.stringslite_Clone s w (by omega))
  go_enter Tryz.func73, Tryz.ntmps73
  go_wp2_with fail
  refine (unhide HC).mono ?_
  rintro e w1 ⟨rfl, hb⟩
  go_wp2
  go_ret
  exact ⟨rfl, hb⟩
end
section
open Go Go.Proofs Go.RowKit
theorem run_store_float (P : Program) (w : World) (a : Addr) (m : Mode) (k : FloatKind) (x : Nat) : (store a (.float k x) m).run P w = stored P w a (.float k x) m := run_store P w a _ m rfl
attribute [local go_sem] bits_run run_store_float
set_option maxRecDepth 100000 in
theorem sign16 (n : Int) (w : World) : Calls Tryz.prog 64 #[.int .i64 n] w fun e w' => e = .returned (.int .i64 (if n < 0 then -1 else if 0 < n then 1 else 0)) ∧ w' = w := by
  have h : (if n < 0 then -1 else if 0 < n then 1 else 0) = max (-1) (min 1 n) := by
    split
    · omega
    · split <;> omega
  rw [h]
  go_enter Tryz.func64, Tryz.ntmps64
  go_wp2
  go_ret
  exact ⟨rfl, rfl⟩
/-- The value that a key is. -/
def kVal (s : ByteArray) (n : Int) : VV := if n = 0 then ⟨5, false, 0, s, 0⟩ else ⟨6, false, 0, s, n⟩
theorem kbelow2 (w : World) (o1 o2 : Obj) : Below w.heap.size w ((w.alloc o1).alloc o2) := ((Below.refl _ _).alloc (Nat.le_refl _) _).alloc (by simp) _
set_option maxRecDepth 100000 in
theorem asValue21 (s : ByteArray) (n : Int) (w : World) : Calls Tryz.prog 46 #[keyV s n] w fun e w' => e = .returned (kVal s n).agg ∧ Below w.heap.size w w' := by
  unfold keyV
  by_cases hn : n = 0
  · subst hn
    have e1 : kVal s 0 = ⟨5, false, 0, s, 0⟩ := by unfold kVal; rw [if_pos rfl]
    rw [e1]
    unfold VV.agg
    go_enter Tryz.func46, Tryz.ntmps46
    go_wp2
    simp [bodyPost, results, Tryz.results46, go_sem]
    exact kbelow2 ..
  · have e1 : kVal s n = ⟨6, false, 0, s, n⟩ := by unfold kVal; rw [if_neg hn]
    rw [e1]
    unfold VV.agg
    go_enter Tryz.func46, Tryz.ntmps46
    go_wp2
    simp [bodyPost, results, Tryz.results46, go_sem]
    exact kbelow2 ..
set_option maxRecDepth 100000 in
theorem vcheck20 (v : VV) (w : World) (hT : Lib.Utf8Tabs 2 3 w) : Calls Tryz.prog 45 #[v.agg] w fun e w' => e = .returned (.int .i64 (if v.good then 0 else 5)) ∧ Below w.heap.size w w' := by
  have HI := hide (fun w (hT : Lib.Utf8Tabs 2 3 w) => inside_any v.k v.b v.x v.s v.i w hT)
  have HT := hide hT
  unfold VV.agg VV.good
  generalize goodV v.k v.b v.x v.s v.i = g at *
  clear hT
  go_enter Tryz.func45, Tryz.ntmps45
  go_wp2_with fail
  refine (unhide HI _ (tabs_below (unhide HT) (below_alloc1 _ _))).mono ?_
  rintro e w1 ⟨rfl, hb⟩
  have HB := hide (((below_alloc1 w _).trans (hb.mono (by simp))))
  clear hb
  cases g
  · go_wp2
    go_ret
    exact ⟨rfl, unhide HB⟩
  · go_wp2
    go_ret
    exact ⟨rfl, unhide HB⟩
set_option maxRecDepth 100000 in
theorem check12 (s : ByteArray) (n : Int) (w : World) (hT : Lib.Utf8Tabs 2 3 w) : Calls Tryz.prog 33 #[keyV s n] w fun e w' => e = .returned (.int .i64 (if (kVal s n).good then 0 else 5)) ∧ Below w.heap.size w w' := by
  have HA := hide (fun w => asValue21 s n w)
  have HI := hide (fun w (hT : Lib.Utf8Tabs 2 3 w) => vcheck20 (kVal s n) w hT)
  have HT := hide hT
  unfold keyV at *
  generalize (kVal s n).agg = v at *
  generalize (if (kVal s n).good then (0 : Int) else 5) = g at *
  clear hT
  go_enter Tryz.func33, Tryz.ntmps33
  go_wp2_with fail
  refine (unhide HA _).mono ?_
  rintro e w1 ⟨rfl, hb⟩
  have HB := hide (((below_alloc1 w _).trans (hb.mono (by simp))))
  clear hb
  go_wp2_with fail
  refine (unhide HI _ (tabs_below (unhide HT) (unhide HB))).mono ?_
  rintro e w2 ⟨rfl, hb2⟩
  have HB2 := hide ((unhide HB).trans (hb2.mono (unhide HB).size))
  clear hb2
  go_wp2
  go_ret
  exact ⟨rfl, unhide HB2⟩
theorem two2 {w w1 : World} {c0 c1 d0 d1 : Value} {t u : TypeId} (hb : Below ((w.alloc (Obj.cells #[c0, c1] t)).alloc (Obj.cells #[d0, d1] u)).drew.heap.size ((w.alloc (Obj.cells #[c0, c1] t)).alloc (Obj.cells #[d0, d1] u)).drew w1) :
    w1.cell? ⟨w.heap.size, 1, none⟩ = some c1 ∧ w1.cell? ⟨w.heap.size + 1, 0, none⟩ = some d0 ∧ w1.cell? ⟨w.heap.size + 1, 1, none⟩ = some d1 ∧ w1.frozen? ⟨w.heap.size + 1, 0, none⟩ = false ∧ w1.frozen? ⟨w.heap.size + 1, 1, none⟩ = false ∧
    Below w.heap.size w w1 ∧ w1.heap[w.heap.size + 1]? = some (Obj.cells #[d0, d1] u) := by
  have h1 := hb.cell (p := ⟨w.heap.size, 1, none⟩) (by simp; omega)
  have h2 := hb.cell (p := ⟨w.heap.size + 1, 0, none⟩) (by simp)
  have h3 := hb.cell (p := ⟨w.heap.size + 1, 1, none⟩) (by simp)
  have h4 := hb.frozen (p := ⟨w.heap.size + 1, 0, none⟩) (by simp)
  have h5 := hb.frozen (p := ⟨w.heap.size + 1, 1, none⟩) (by simp)
  have h6 := hb.block (w.heap.size + 1) (by simp)
  simp [go_sem] at h1 h2 h3 h4 h5
  refine ⟨h1, h2, h3, h4, h5, ((kbelow2 w _ _).drew).trans (hb.mono (by simp; omega)), ?_⟩
  rw [h6]
  have e := heap_alloc_new (w.alloc (Obj.cells #[c0, c1] t)) (Obj.cells #[d0, d1] u)
  rw [show (w.alloc (Obj.cells #[c0, c1] t)).heap.size = w.heap.size + 1 by simp] at e
  exact e
set_option maxRecDepth 100000 in
theorem anew30 (s : ByteArray) (n : Int) (h : s.size ≤ 1048576) (w : World) : Calls Tryz.prog 60 #[keyV s n] w fun e w' => e = .returned (keyV s n) ∧ Below w.heap.size w w' := by
  have HC := hide (fun w => clone_any s w h)
  unfold keyV
  go_enter Tryz.func60, Tryz.ntmps60
  go_wp2_with fail
  go_region_with (go_at_call 73; refine (unhide HC _).mono ?_; rintro e w1 ⟨rfl, hb⟩; obtain ⟨c1, d0, d1, f0, f1, hB, hO⟩ := two2 hb; have HB := hide hB; have HO := hide hO; clear hb hB hO)
  all_goals
    have g0 : ((w1.setCell ⟨w.heap.size + 1, 0, none⟩ (.string s)).setCell ⟨w.heap.size + 1, 1, none⟩ (.int .i64 n)).cell? ⟨w.heap.size + 1, 0, none⟩ = some (.string s) := by
      simp [World.cell?, World.setCell, Array.getElem?_modify, unhide HO]
    have g1 : ((w1.setCell ⟨w.heap.size + 1, 0, none⟩ (.string s)).setCell ⟨w.heap.size + 1, 1, none⟩ (.int .i64 n)).cell? ⟨w.heap.size + 1, 1, none⟩ = some (.int .i64 n) := by
      simp [World.cell?, World.setCell, Array.getElem?_modify, unhide HO]
    have HG := hide (((unhide HB).setCell (p := ⟨w.heap.size + 1, 0, none⟩) (by simp) (.string s)).setCell (p := ⟨w.heap.size + 1, 1, none⟩) (by simp) (.int .i64 n))
    generalize (w1.setCell ⟨w.heap.size + 1, 0, none⟩ (.string s)).setCell ⟨w.heap.size + 1, 1, none⟩ (.int .i64 n) = W at *
    clear HB HO f0 f1 d0 d1 c1 HC
    go_wp2
    simp [bodyPost, results, Tryz.results60, go_sem, g0, g1]
    exact unhide HG
def cpN (a b : Nat) : Int := if a < b then -1 else if b < a then 1 else 0
/-- The order of two right keys. -/
def cmpK (a : ByteArray) (m : Int) (b : ByteArray) (n : Int) : Int :=
  if kdOf a m = kdOf b n then (if kdOf a m = 0 then cpN (knOf a m) (knOf b n) else if kdOf a m = 1 then cmI a b else Lib.compareInt m n) else Lib.compareInt (kdOf a m) (kdOf b n)
theorem good_size {s : ByteArray} {n : Int} (h : (kVal s n).good = true) : s.size ≤ 1048576 := by
  unfold kVal at h
  by_cases hn : n = 0
  · rw [if_pos hn] at h
    rcases hf : fitV s with _ | _
    · simp [VV.good, goodV, inG, hf] at h
    · unfold fitV at hf
      simp at hf
      exact hf.1
  · rw [if_neg hn] at h
    have : s.toList.isEmpty = true := by
      cases he : s.toList.isEmpty
      · simp [VV.good, goodV, inG, strV, he] at h
      · rfl
    rw [empty_of this]
    decide
