import Derived.Shelf.Unicode.DecodeSlow
import Derived.Shelf.Unicode.DecodeAny
import Derived.Test.YtcflglloopgieaaGreatDoorProg
import GoSem.Claim
import Derived.WalkKit
import Derived.Below
import Derived.Deep.QuietTactic
import Derived.BigQuiet
import Derived.Laws.BitsLemmas
import Derived.WalkSmall
import Derived.LoopTactic
import Derived.Laws.Cover2
import Derived.Laws.FloatArith

/-
  THE SHELF's CONTRACTS for unicode/utf8's AppendRune and DecodeRuneInString, laid at this program in plain words (by lay-plain.mjs).
-/
namespace Go.Proofs
open Go.Shelf
def Tryz.lays260_ren : Go.Shelf.Ren := ⟨fun | 260 => 125 | n => n, fun | 9 => 9 | 21 => 21 | 3 => 3 | 4 => 4 | 5 => 5 | 119 => 157 | 0 => 0 | 46 => 156 | 139 => 160 | 138 => 159 | n => n, fun | 3 => 1 | 4 => 2 | n => n⟩
theorem Tryz.lays260 : Go.Proofs.Lays.n260 Tryz.prog Tryz.lays260_ren := {
  mixed := by kernel_rfl
  f260 := Tryz.func125.trans (congrArg some (by kernel_rfl))
  t0 := Tryz.underlying0
  a0 := Tryz.isAgg0
  z0 := Tryz.sizeOf0
  v0 := Tryz.zeroValue0
  t3 := Tryz.underlying3
  a3 := Tryz.isAgg3
  z3 := Tryz.sizeOf3
  v3 := Tryz.zeroValue3
  t4 := Tryz.underlying4
  a4 := Tryz.isAgg4
  z4 := Tryz.sizeOf4
  v4 := Tryz.zeroValue4
  t5 := Tryz.underlying5
  a5 := Tryz.isAgg5
  z5 := Tryz.sizeOf5
  v5 := Tryz.zeroValue5
  t9 := Tryz.underlying9
  a9 := Tryz.isAgg9
  z9 := Tryz.sizeOf9
  v9 := Tryz.zeroValue9
  t21 := Tryz.underlying21
  a21 := Tryz.isAgg21
  z21 := Tryz.sizeOf21
  v21 := Tryz.zeroValue21
  t46 := Tryz.underlying156
  a46 := Tryz.isAgg156
  z46 := Tryz.sizeOf156
  v46 := Tryz.zeroValue156
  t119 := Tryz.underlying157
  a119 := Tryz.isAgg157
  z119 := Tryz.sizeOf157
  t138 := Tryz.underlying159
  a138 := Tryz.isAgg159
  z138 := Tryz.sizeOf159
  v138 := Tryz.zeroValue159
  t139 := Tryz.underlying160
  a139 := Tryz.isAgg160
  z139 := Tryz.sizeOf160
  v139 := Tryz.zeroValue160
  g3 := by kernel_rfl
  g4 := by kernel_rfl }
open Go.RowKit Go.Lib in
def Tryz.lays197_ren : Go.Shelf.Ren := ⟨fun | 197 => 123 | 260 => 125 | n => n, fun | 9 => 9 | 21 => 21 | 3 => 3 | 4 => 4 | 5 => 5 | 105 => 153 | 119 => 157 | 0 => 0 | 46 => 156 | 139 => 160 | 138 => 159 | n => n, fun | 3 => 1 | 4 => 2 | n => n⟩
theorem Tryz.lays197 : Go.Proofs.Lays.n197 Tryz.prog Tryz.lays197_ren := {
  mixed := by kernel_rfl
  f197 := Tryz.func123.trans (congrArg some (by kernel_rfl))
  f260 := Tryz.func125.trans (congrArg some (by kernel_rfl))
  t0 := Tryz.underlying0
  a0 := Tryz.isAgg0
  z0 := Tryz.sizeOf0
  v0 := Tryz.zeroValue0
  t3 := Tryz.underlying3
  a3 := Tryz.isAgg3
  z3 := Tryz.sizeOf3
  v3 := Tryz.zeroValue3
  t4 := Tryz.underlying4
  a4 := Tryz.isAgg4
  z4 := Tryz.sizeOf4
  v4 := Tryz.zeroValue4
  t5 := Tryz.underlying5
  a5 := Tryz.isAgg5
  z5 := Tryz.sizeOf5
  v5 := Tryz.zeroValue5
  t9 := Tryz.underlying9
  a9 := Tryz.isAgg9
  z9 := Tryz.sizeOf9
  v9 := Tryz.zeroValue9
  t21 := Tryz.underlying21
  a21 := Tryz.isAgg21
  z21 := Tryz.sizeOf21
  v21 := Tryz.zeroValue21
  t46 := Tryz.underlying156
  a46 := Tryz.isAgg156
  z46 := Tryz.sizeOf156
  v46 := Tryz.zeroValue156
  t105 := Tryz.underlying153
  a105 := Tryz.isAgg153
  z105 := Tryz.sizeOf153
  v105 := Tryz.zeroValue153
  t119 := Tryz.underlying157
  a119 := Tryz.isAgg157
  z119 := Tryz.sizeOf157
  t138 := Tryz.underlying159
  a138 := Tryz.isAgg159
  z138 := Tryz.sizeOf159
  v138 := Tryz.zeroValue159
  t139 := Tryz.underlying160
  a139 := Tryz.isAgg160
  z139 := Tryz.sizeOf160
  v139 := Tryz.zeroValue160
  g3 := by kernel_rfl
  g4 := by kernel_rfl }
open Go.RowKit Go.Lib in
/-- **unicode/utf8.DecodeRuneInString AT EVERY STRING.** (LAID: no walk: one application.) -/
theorem Tryz.utf8_DecodeRuneInString (s : ByteArray) (w : World) (hT : Lib.Utf8Tabs 1 2 w) :
    Calls Tryz.prog 123 #[.string s] w fun e w' => e = .returned (.tuple #[.int .i32 (Lib.decodeGo s).1, .int .i64 (Lib.decodeGo s).2]) ∧ Below w.heap.size w w' := Any.utf8_DecodeRuneInString Tryz.lays197 s w hT
end Go.Proofs

/-! Math -/
namespace Go.Proofs.YtcflglloopgieaaGreatDoor
namespace M

def isHi (c : Nat) : Bool := decide (55296 ≤ c) && decide (c < 56320)
def isLo (c : Nat) : Bool := decide (56320 ≤ c) && decide (c ≤ 57343)
/-- A code point as its bytes. -/
def E (c : Nat) : List Nat :=
  if c < 128 then [c] else if c < 2048 then [192 + c / 64, 128 + c % 64]
  else if c < 65536 then [224 + c / 4096, 128 + c / 64 % 64, 128 + c % 64]
  else [240 + c / 262144, 128 + c / 4096 % 64, 128 + c / 64 % 64, 128 + c % 64]
/-- A code point as its units. -/
def U (c : Nat) : List Nat := if c < 65536 then [c] else [55296 + (c - 65536) / 1024, 56320 + (c - 65536) % 1024]
def okc (c : Nat) : Bool := decide (c < 55296) || (decide (57343 < c) && decide (c ≤ 1114111))
/-- Go's own decoder, over numbers. -/
def goD (l : List Nat) : Nat × Nat :=
  if l.length = 0 then (65533, 0) else
  if l.getD 0 0 < 128 then (l.getD 0 0, 1) else
  if l.getD 0 0 / 32 = 6 ∧ 1 < l.length ∧ l.getD 1 0 / 64 = 2 then
    (if 128 ≤ l.getD 0 0 % 32 * 64 + l.getD 1 0 % 64 then (l.getD 0 0 % 32 * 64 + l.getD 1 0 % 64, 2) else (65533, 1)) else
  if l.getD 0 0 / 16 = 14 ∧ 1 < l.length ∧ l.getD 1 0 / 64 = 2 ∧ 2 < l.length ∧ l.getD 2 0 / 64 = 2 then
    (if 2048 ≤ l.getD 0 0 % 16 * 4096 + l.getD 1 0 % 64 * 64 + l.getD 2 0 % 64 ∧ okc (l.getD 0 0 % 16 * 4096 + l.getD 1 0 % 64 * 64 + l.getD 2 0 % 64) = true then (l.getD 0 0 % 16 * 4096 + l.getD 1 0 % 64 * 64 + l.getD 2 0 % 64, 3) else (65533, 1)) else
  if l.getD 0 0 / 8 = 30 ∧ 1 < l.length ∧ l.getD 1 0 / 64 = 2 ∧ 2 < l.length ∧ l.getD 2 0 / 64 = 2 ∧ 3 < l.length ∧ l.getD 3 0 / 64 = 2 then
    (if 65536 ≤ l.getD 0 0 % 8 * 262144 + l.getD 1 0 % 64 * 4096 + l.getD 2 0 % 64 * 64 + l.getD 3 0 % 64 ∧ okc (l.getD 0 0 % 8 * 262144 + l.getD 1 0 % 64 * 4096 + l.getD 2 0 % 64 * 64 + l.getD 3 0 % 64) = true then (l.getD 0 0 % 8 * 262144 + l.getD 1 0 % 64 * 4096 + l.getD 2 0 % 64 * 64 + l.getD 3 0 % 64, 4) else (65533, 1)) else
  (65533, 1)
def surr (l : List Nat) : Nat × Nat :=
  if l.length < 3 ∨ l.getD 0 0 ≠ 237 ∨ l.getD 1 0 / 32 ≠ 5 ∨ l.getD 2 0 / 64 ≠ 2 then (0, 0) else (55296 + l.getD 1 0 % 32 * 64 + l.getD 2 0 % 64, 3)
def dec (l : List Nat) : Nat × Nat := if (goD l).1 = 65533 ∧ (goD l).2 ≤ 1 then surr l else goD l

theorem okc_iff (c : Nat) : okc c = true ↔ (c < 55296 ∨ (57343 < c ∧ c ≤ 1114111)) := by simp [okc]

set_option maxHeartbeats 1000000 in
theorem goD_E (c : Nat) (r : List Nat) (hc : c ≤ 1114111) (hs : ¬ (55296 ≤ c ∧ c ≤ 57343)) : goD (E c ++ r) = (c, (E c).length) := by
  unfold E
  by_cases h1 : c < 128
  · simp [h1, goD]
  by_cases h2 : c < 2048
  · rw [if_neg h1, if_pos h2]
    simp only [goD, List.getD_cons_zero, List.getD_cons_succ, List.cons_append, List.nil_append, List.length_cons, List.length_nil, okc_iff]
    repeat' split
    all_goals first | (exfalso; omega) | (refine Prod.ext ?_ ?_ <;> dsimp only <;> omega)
  by_cases h3 : c < 65536
  · rw [if_neg h1, if_neg h2, if_pos h3]
    simp only [goD, List.getD_cons_zero, List.getD_cons_succ, List.cons_append, List.nil_append, List.length_cons, List.length_nil, okc_iff]
    repeat' split
    all_goals first | (exfalso; omega) | (refine Prod.ext ?_ ?_ <;> dsimp only <;> omega)
  · rw [if_neg h1, if_neg h2, if_neg h3]
    simp only [goD, List.getD_cons_zero, List.getD_cons_succ, List.cons_append, List.nil_append, List.length_cons, List.length_nil, okc_iff]
    repeat' split
    all_goals first | (exfalso; omega) | (refine Prod.ext ?_ ?_ <;> dsimp only <;> omega)

theorem len1 : ∀ (l : List Nat), 0 < l.length → ∃ a t, l = a :: t
  | a :: t, _ => ⟨a, t, rfl⟩
theorem len2 : ∀ (l : List Nat), 1 < l.length → ∃ a b t, l = a :: b :: t
  | a :: b :: t, _ => ⟨a, b, t, rfl⟩
theorem len3 : ∀ (l : List Nat), 2 < l.length → ∃ a b c t, l = a :: b :: c :: t
  | a :: b :: c :: t, _ => ⟨a, b, c, t, rfl⟩
theorem len4 : ∀ (l : List Nat), 3 < l.length → ∃ a b c d t, l = a :: b :: c :: d :: t
  | a :: b :: c :: d :: t, _ => ⟨a, b, c, d, t, rfl⟩
theorem goD_cases (l : List Nat) (hb : ∀ x ∈ l, x < 256) : ((goD l).1 = 65533 ∧ (goD l).2 ≤ 1) ∨ (∃ b0 t, l = b0 :: t ∧ b0 < 128 ∧ goD l = (b0, 1)) ∨
    (∃ b0 b1 t, l = b0 :: b1 :: t ∧ b0 / 32 = 6 ∧ b1 / 64 = 2 ∧ 128 ≤ b0 % 32 * 64 + b1 % 64 ∧ goD l = (b0 % 32 * 64 + b1 % 64, 2)) ∨
    (∃ b0 b1 b2 t, l = b0 :: b1 :: b2 :: t ∧ b0 / 16 = 14 ∧ b1 / 64 = 2 ∧ b2 / 64 = 2 ∧ 2048 ≤ b0 % 16 * 4096 + b1 % 64 * 64 + b2 % 64 ∧ goD l = (b0 % 16 * 4096 + b1 % 64 * 64 + b2 % 64, 3)) ∨
    (∃ b0 b1 b2 b3 t, l = b0 :: b1 :: b2 :: b3 :: t ∧ b0 / 8 = 30 ∧ b1 / 64 = 2 ∧ b2 / 64 = 2 ∧ b3 / 64 = 2 ∧ 65536 ≤ b0 % 8 * 262144 + b1 % 64 * 4096 + b2 % 64 * 64 + b3 % 64 ∧ b0 % 8 * 262144 + b1 % 64 * 4096 + b2 % 64 * 64 + b3 % 64 ≤ 1114111 ∧ goD l = (b0 % 8 * 262144 + b1 % 64 * 4096 + b2 % 64 * 64 + b3 % 64, 4)) := by
  obtain ⟨v, hv⟩ : ∃ v, goD l = v := ⟨_, rfl⟩
  rw [hv]
  unfold goD at hv
  repeat' split at hv
  all_goals subst hv
  all_goals first | (left; simp; done) | skip
  · rename_i h0 h1
    right; left
    obtain ⟨b0, t, rfl⟩ := len1 l (by omega)
    exact ⟨b0, t, rfl, by simpa using h1, by simp⟩
  · rename_i h0 h1 h2 h3
    right; right; left
    obtain ⟨b0, b1, t, rfl⟩ := len2 l h2.2.1
    simp only [List.getD_cons_zero, List.getD_cons_succ] at h2 h3 ⊢; exact ⟨b0, b1, t, rfl, h2.1, h2.2.2, h3, rfl⟩
  · rename_i h0 h1 h2 h3 h4
    right; right; right; left
    obtain ⟨b0, b1, b2, t, rfl⟩ := len3 l h3.2.2.2.1
    simp only [List.getD_cons_zero, List.getD_cons_succ] at h3 h4 ⊢; exact ⟨b0, b1, b2, t, rfl, h3.1, h3.2.2.1, h3.2.2.2.2, h4.1, rfl⟩
  · rename_i h0 h1 h2 h3 h4 h5
    right; right; right; right
    obtain ⟨b0, b1, b2, b3, t, rfl⟩ := len4 l h4.2.2.2.2.2.1
    simp only [List.getD_cons_zero, List.getD_cons_succ, okc_iff] at h4 h5 ⊢; exact ⟨b0, b1, b2, b3, t, rfl, h4.1, h4.2.2.1, h4.2.2.2.2.1, h4.2.2.2.2.2.2, h5.1, by omega, rfl⟩

theorem goD_inv (l : List Nat) (hb : ∀ x ∈ l, x < 256) (hne : ¬ ((goD l).1 = 65533 ∧ (goD l).2 ≤ 1)) :
    (goD l).1 ≤ 1114111 ∧ l = E (goD l).1 ++ l.drop (goD l).2 ∧ (goD l).2 = (E (goD l).1).length := by
  rcases goD_cases l hb with h | ⟨b0, t, hl, h1, hv⟩ | ⟨b0, b1, t, hl, h1, h2, h3, hv⟩ | ⟨b0, b1, b2, t, hl, h1, h2, h3, h4, hv⟩ | ⟨b0, b1, b2, b3, t, hl, h1, h2, h3, h4, h5, h6, hv⟩
  · exact absurd h hne
  · rw [hv]; subst hl; simp [E, h1]; omega
  · rw [hv]; subst hl
    simp only [E]
    rw [if_neg (by omega), if_pos (by omega)]
    refine ⟨by omega, ?_, by simp⟩
    simp only [List.drop_succ_cons, List.drop_zero, List.cons_append, List.nil_append, List.cons.injEq, and_true]
    omega
  · rw [hv]; subst hl
    simp only [E]
    rw [if_neg (by omega), if_neg (by omega), if_pos (by omega)]
    refine ⟨by omega, ?_, by simp⟩
    simp only [List.drop_succ_cons, List.drop_zero, List.cons_append, List.nil_append, List.cons.injEq, and_true]
    omega
  · rw [hv]; subst hl
    simp only [E]
    rw [if_neg (by omega), if_neg (by omega), if_neg (by omega)]
    refine ⟨by omega, ?_, by simp⟩
    simp only [List.drop_succ_cons, List.drop_zero, List.cons_append, List.nil_append, List.cons.injEq, and_true]
    omega

theorem surr_inv (l : List Nat) (hn : (surr l).2 ≠ 0) :
    (surr l).1 ≤ 1114111 ∧ l = E (surr l).1 ++ l.drop (surr l).2 ∧ (surr l).2 = (E (surr l).1).length := by
  unfold surr at *
  by_cases h : l.length < 3 ∨ l.getD 0 0 ≠ 237 ∨ l.getD 1 0 / 32 ≠ 5 ∨ l.getD 2 0 / 64 ≠ 2
  · rw [if_pos h] at hn; simp at hn
  · rw [if_neg h]
    match l, h with
    | [], h => simp at h
    | [_], h => simp at h
    | [_, _], h => simp at h
    | b0 :: b1 :: b2 :: t, h =>
      simp at h
      obtain ⟨rfl, h1, h2⟩ := h
      simp only [List.getD_cons_zero, List.getD_cons_succ]
      have n1 : ¬ (55296 + b1 % 32 * 64 + b2 % 64 < 128) := by omega
      have n2 : ¬ (55296 + b1 % 32 * 64 + b2 % 64 < 2048) := by omega
      have n3 : 55296 + b1 % 32 * 64 + b2 % 64 < 65536 := by omega
      simp [E, n1, n2, n3]; omega

theorem dec_inv (l : List Nat) (hb : ∀ x ∈ l, x < 256) (hn : (dec l).2 ≠ 0) :
    (dec l).1 ≤ 1114111 ∧ l = E (dec l).1 ++ l.drop (dec l).2 ∧ (dec l).2 = (E (dec l).1).length := by
  unfold dec at *
  split
  · rename_i h; rw [if_pos h] at hn; exact surr_inv l hn
  · rename_i h; exact goD_inv l hb h

/-- The scan of Valid. -/
def vF : Nat → Bool → List Nat → Bool
  | 0, _, l => l.isEmpty
  | f + 1, h, l => if l.isEmpty then true else if (dec l).2 = 0 || (h && isLo (dec l).1) then false else vF f (isHi (dec l).1) (l.drop (dec l).2)

theorem vF_fuel : ∀ (f g : Nat) (h : Bool) (l : List Nat), l.length ≤ f → l.length ≤ g → vF f h l = vF g h l := by
  intro f
  induction f with
  | zero =>
    intro g h l h1 h2
    have : l = [] := List.eq_nil_of_length_eq_zero (by omega)
    subst this
    cases g <;> simp [vF]
  | succ f ih =>
    intro g h l h1 h2
    cases l with
    | nil => cases g <;> simp [vF]
    | cons x t =>
      cases g with
      | zero => simp at h2
      | succ g =>
        simp only [vF]
        split
        · rfl
        · split
          · rfl
          · rename_i hz
            have : (dec (x :: t)).2 ≠ 0 := by intro e; simp [e] at hz
            apply ih <;> (simp only [List.length_drop, List.length_cons] at *; omega)

def valid (h : Bool) (l : List Nat) : Bool := vF l.length h l
theorem valid_step (h : Bool) (l : List Nat) (hne : l ≠ []) : valid h l = if (dec l).2 = 0 || (h && isLo (dec l).1) then false else valid (isHi (dec l).1) (l.drop (dec l).2) := by
  cases l with
  | nil => exact absurd rfl hne
  | cons x t =>
    unfold valid
    simp only [List.length_cons, vF, List.isEmpty_cons, Bool.false_eq_true, if_false]
    split
    · rfl
    · rename_i hz
      have : (dec (x :: t)).2 ≠ 0 := by intro e; simp [e] at hz
      apply vF_fuel <;> (simp only [List.length_drop, List.length_cons]; omega)

/-! The reference's reader, and the rows of units -/
def tailN : Nat → List Nat → Nat → Option Nat
  | 0, _, c => some c
  | n + 1, l, c => match l with
    | [] => none
    | b :: t => if b < 128 ∨ 191 < b then none else tailN n t (64 * c + (b - 128))
/-- how many bytes follow, and what the first one gives -/
def head (b : Nat) : Option (Nat × Nat) :=
  if b < 128 then some (0, b) else if 192 ≤ b ∧ b < 224 then some (1, b - 192) else if 224 ≤ b ∧ b < 240 then some (2, b - 224) else if 240 ≤ b ∧ b < 248 then some (3, b - 240) else none
/-- one code point of the reader: the point, and how many bytes it takes -/
def rd1 (l : List Nat) : Option (Nat × Nat) :=
  match l with
  | [] => none
  | b :: t => match head b with
    | none => none
    | some (n, base) => match tailN n t 0 with
      | none => none
      | some c => if 1114111 < c + base * 64 ^ n then none else some (c + base * 64 ^ n, n)
def rdF : Nat → List Nat → Option (List Nat)
  | 0, l => if l.isEmpty then some [] else none
  | f + 1, l => if l.isEmpty then some [] else match rd1 l with
    | none => none
    | some (c, n) => (rdF f (l.drop (1 + n))).map (U c ++ ·)
def rd (l : List Nat) : Option (List Nat) := rdF l.length l
/-- The code points of a row. -/
def row : List Nat → List Nat
  | [] => []
  | [a] => [a]
  | a :: b :: r => if isHi a && isLo b then (65536 + 1024 * (a - 55296) + (b - 56320)) :: row r else a :: row (b :: r)
end M
end Go.Proofs.YtcflglloopgieaaGreatDoor

/-! Wa -/
namespace Go.Proofs.YtcflglloopgieaaGreatDoor
open Go.RowKit Go.Shelf

def hiZ (c : Int) : Bool := decide (55296 ≤ c) && decide (c < 56320)
def loZ (c : Int) : Bool := decide (56320 ≤ c) && decide (c ≤ 57343)
theorem hiZ_nat (c : Nat) : hiZ c = M.isHi c := by
  unfold hiZ M.isHi
  rw [show decide ((55296 : Int) ≤ (c : Int)) = decide (55296 ≤ c) from decide_eq_decide.2 (by omega), show decide ((c : Int) < 56320) = decide (c < 56320) from decide_eq_decide.2 (by omega)]
theorem loZ_nat (c : Nat) : loZ c = M.isLo c := by
  unfold loZ M.isLo
  rw [show decide ((56320 : Int) ≤ (c : Int)) = decide (56320 ≤ c) from decide_eq_decide.2 (by omega), show decide ((c : Int) ≤ 57343) = decide (c ≤ 57343) from decide_eq_decide.2 (by omega)]

theorem isHigh_any (c : Int) (w : World) : Calls Tryz.prog 122 #[.int .i32 c] w fun e w' => e = .returned (.bool (hiZ c)) ∧ w' = w := by
  unfold hiZ
  by_cases h1 : 55296 ≤ c <;> by_cases h2 : c < 56320
  all_goals
    go_enter Tryz.func122, Tryz.ntmps122
    go_wp2
    go_ret
    simp [h1, h2]
theorem isLow_any (c : Int) (w : World) : Calls Tryz.prog 121 #[.int .i32 c] w fun e w' => e = .returned (.bool (loZ c)) ∧ w' = w := by
  unfold loZ
  by_cases h1 : 56320 ≤ c <;> by_cases h2 : c ≤ 57343
  all_goals
    go_enter Tryz.func121, Tryz.ntmps121
    go_wp2
    go_ret
    simp [h1, h2]
def nums (s : ByteArray) : List Nat := s.data.toList.map UInt8.toNat
theorem nums_len (s : ByteArray) : (nums s).length = s.size := by unfold nums; rw [List.length_map]; rfl
theorem nums_lt (s : ByteArray) : ∀ x ∈ nums s, x < 256 := by
  intro x hx; unfold nums at hx; rw [List.mem_map] at hx; obtain ⟨y, _, rfl⟩ := hx; exact y.toNat_lt
theorem nums_get (s : ByteArray) (k : Nat) (h : k < s.size) : (nums s).getD k 0 = (s[k]'h).toNat := by
  have h' : k < s.data.toList.length := h
  unfold nums
  rw [List.getD_eq_getElem?_getD, List.getElem?_map, List.getElem?_eq_getElem h']
  rfl

theorem u8_224 : ∀ n : Fin 256, bits .and .u8 (n.val : Int) 224 = (n.val : Int) / 32 * 32 := by decide +kernel
theorem u8_192 : ∀ n : Fin 256, bits .and .u8 (n.val : Int) 192 = (n.val : Int) / 64 * 64 := by decide +kernel

theorem surr_any (s : ByteArray) (w : World) : Calls Tryz.prog 124 #[.string s] w fun e w' => e = .returned (.tuple #[.int .i32 ((M.surr (nums s)).1 : Nat), .int .i64 ((M.surr (nums s)).2 : Nat)]) ∧ ∃ n, w' = w.drewN n := by
  by_cases h : s.size < 3
  · have e : M.surr (nums s) = (0, 0) := by unfold M.surr; rw [nums_len, if_pos (Or.inl h)]
    rw [e]
    have h' : (s.size : Int) < 3 := by omega
    go_enter Tryz.func124, Tryz.ntmps124
    go_wp2
    go_ret2
    exact ⟨rfl, 0, rfl⟩
  · have hz0 : (0 : Int) < (s.size : Int) := by omega
    have hz1 : (1 : Int) < (s.size : Int) := by omega
    have hz2 : (2 : Int) < (s.size : Int) := by omega
    have h' : ¬ ((s.size : Int) < 3) := by omega
    obtain ⟨x0, hx0⟩ : ∃ x0, s[0]'(by omega) = x0 := ⟨_, rfl⟩
    obtain ⟨x1, hx1⟩ : ∃ x1, s[1]'(by omega) = x1 := ⟨_, rfl⟩
    obtain ⟨x2, hx2⟩ : ∃ x2, s[2]'(by omega) = x2 := ⟨_, rfl⟩
    have g0 : (nums s).getD 0 0 = x0.toNat := by rw [nums_get s 0 (by omega), hx0]
    have g1 : (nums s).getD 1 0 = x1.toNat := by rw [nums_get s 1 (by omega), hx1]
    have g2 : (nums s).getD 2 0 = x2.toNat := by rw [nums_get s 2 (by omega), hx2]
    have hS : M.surr (nums s) = if x0.toNat ≠ 237 ∨ x1.toNat / 32 ≠ 5 ∨ x2.toNat / 64 ≠ 2 then (0, 0) else (55296 + x1.toNat % 32 * 64 + x2.toNat % 64, 3) := by
      unfold M.surr; rw [nums_len, g0, g1, g2]; simp [h]
    clear g0 g1 g2
    rw [hS]; clear hS
    have l0 := x0.toNat_lt; have l1 := x1.toNat_lt; have l2 := x2.toNat_lt
    obtain ⟨n0, hn0⟩ : ∃ n0, x0.toNat = n0 := ⟨_, rfl⟩
    obtain ⟨n1, hn1⟩ : ∃ n1, x1.toNat = n1 := ⟨_, rfl⟩
    obtain ⟨n2, hn2⟩ : ∃ n2, x2.toNat = n2 := ⟨_, rfl⟩
    rw [hn0] at l0; rw [hn1] at l1; rw [hn2] at l2
    rw [hn0, hn1, hn2]
    have q1 : bits .and .u8 (n1 : Int) 224 = (n1 : Int) / 32 * 32 := u8_224 ⟨n1, l1⟩
    have q2 : bits .and .u8 (n2 : Int) 192 = (n2 : Int) / 64 * 64 := u8_192 ⟨n2, l2⟩
    have q3 : bits .and .u8 (n1 : Int) 31 = (n1 : Int) % 32 := u8_and31 _ (by omega) (by omega)
    have q4 : bits .and .u8 (n2 : Int) 63 = (n2 : Int) % 64 := u8_and63 _ (by omega) (by omega)
    by_cases c0 : n0 = 237
    case neg =>
      rw [if_pos (Or.inl c0)]
      have c0' : ((n0 : Int) != 237) = true := by rw [bne_iff_ne]; omega
      go_enter Tryz.func124, Tryz.ntmps124
      go_wp2
      go_ret2
      exact ⟨rfl, 0, rfl⟩
    by_cases c1 : n1 / 32 = 5
    case neg =>
      rw [if_pos (Or.inr (Or.inl c1))]
      have c1' : ((n1 : Int) / 32 * 32 != 160) = true := by rw [bne_iff_ne]; omega
      have c0' : ((n0 : Int) != 237) = false := by rw [bne_eq_false_iff_eq]; omega
      go_enter Tryz.func124, Tryz.ntmps124
      go_wp2
      go_ret2
      exact ⟨rfl, 0, rfl⟩
    have c0' : ((n0 : Int) != 237) = false := by rw [bne_eq_false_iff_eq]; omega
    have c1' : ((n1 : Int) / 32 * 32 != 160) = false := by rw [bne_eq_false_iff_eq]; omega
    by_cases c2 : n2 / 64 = 2
    case neg =>
      rw [if_pos (Or.inr (Or.inr c2))]
      have c2' : ((n2 : Int) / 64 * 64 != 128) = true := by rw [bne_iff_ne]; omega
      go_enter Tryz.func124, Tryz.ntmps124
      go_wp2
      go_ret2
      exact ⟨rfl, 0, rfl⟩
    rw [if_neg (by omega)]
    have c2' : ((n2 : Int) / 64 * 64 != 128) = false := by rw [bne_eq_false_iff_eq]; omega
    have b1 : 0 ≤ (n1 : Int) % 32 := by omega
    have b2 : (n1 : Int) % 32 < 32 := by omega
    have b3 : 0 ≤ (n2 : Int) % 64 := by omega
    have b4 : (n2 : Int) % 64 < 64 := by omega
    clear c0 c1 c2
    go_enter Tryz.func124, Tryz.ntmps124
    go_wp2
    go_quiet (fail)
    go_wp2
    go_ret2
    exact ⟨rfl, nq, rfl⟩

end Go.Proofs.YtcflglloopgieaaGreatDoor

/-! Wb -/
namespace Go.Proofs.YtcflglloopgieaaGreatDoor
open Go.RowKit Go.Shelf
theorem get_nums (s : ByteArray) (k : Nat) : (s.get! k).toNat = (nums s).getD k 0 := by
  by_cases h : k < s.size
  · rw [nums_get s k h]
    have : s.get! k = s[k]'h := by
      cases s with
      | mk d => exact getElem!_pos d k h
    rw [this]
  · have e1 : s.get! k = 0 := by
      cases s with
      | mk d => exact getElem!_neg d k h
    rw [e1, List.getD_eq_getElem?_getD, List.getElem?_eq_none (by rw [nums_len]; omega)]
    rfl
theorem valid_nat (c : Nat) : Utf8.valid (c : Int) = M.okc c := by
  unfold Utf8.valid M.okc
  rw [Bool.eq_iff_iff]
  simp
  omega
set_option maxHeartbeats 1000000 in
theorem decodeGo_nums (s : ByteArray) : Lib.decodeGo s = M.goD (nums s) := by
  unfold Lib.decodeGo M.goD Utf8.decode
  simp only [nums_len, get_nums, Nat.zero_add, Bool.and_eq_true, beq_iff_eq, decide_eq_true_eq, valid_nat, ge_iff_le, Utf8.runeError, and_assoc]

theorem below_drewN' (B : Nat) (w : World) (n : Nat) : Below B w (w.drewN n) := by
  exact below_drewN (Below.refl _ _) n
theorem hide {p : Prop} (h : p) : Hid p := h
theorem unhide {p : Prop} (h : Hid p) : p := h
theorem goD_le (l : List Nat) (hb : ∀ x ∈ l, x < 256) : (M.goD l).1 ≤ 1114111 ∧ (M.goD l).2 ≤ 4 := by
  rcases M.goD_cases l hb with h | ⟨b0, t, hl, h1, hv⟩ | ⟨b0, b1, t, hl, h1, h2, h3, hv⟩ | ⟨b0, b1, b2, t, hl, h1, h2, h3, h4, hv⟩ | ⟨b0, b1, b2, b3, t, hl, h1, h2, h3, h4, h5, h6, hv⟩
  · omega
  all_goals (rw [hv]; dsimp only; omega)
set_option maxHeartbeats 400000 in
theorem decode_any (s : ByteArray) (w : World) (hT : Lib.Utf8Tabs 1 2 w) : Calls Tryz.prog 120 #[.string s] w fun e w' => e = .returned (.tuple #[.int .i32 ((M.dec (nums s)).1 : Nat), .int .i64 ((M.dec (nums s)).2 : Nat)]) ∧ Below w.heap.size w w' := by
  have hD := Tryz.utf8_DecodeRuneInString s w hT
  have hle := goD_le (nums s) (nums_lt s)
  have hS := fun w => surr_any s w
  unfold M.dec
  rw [decodeGo_nums] at hD
  generalize M.goD (nums s) = p at *
  generalize M.surr (nums s) = q at *
  obtain ⟨c, n⟩ := p
  obtain ⟨c', n'⟩ := q
  dsimp only at *
  by_cases h1 : c = 65533
  · by_cases h2 : n ≤ 1
    · rw [if_pos ⟨h1, h2⟩]
      have h1' : ((c : Int) == 65533) = true := by rw [beq_iff_eq]; omega
      have h2' : (n : Int) ≤ 1 := by omega
      clear h1 h2
      have HS := hide hS; clear hS
      have HD := hide hD; clear hD
      go_enter Tryz.func120, Tryz.ntmps120
      go_wp2_with fail
      refine (unhide HD).mono ?_
      rintro e w1 ⟨rfl, hb⟩
      go_wp2_with fail
      refine (unhide HS _).mono ?_
      rintro e w2 ⟨rfl, m, rfl⟩
      go_wp2
      go_ret2
      exact ⟨rfl, hb.trans (below_drewN' _ _ _)⟩
    · rw [if_neg (by omega)]
      have h1' : ((c : Int) == 65533) = true := by rw [beq_iff_eq]; omega
      have h2' : ¬ (n : Int) ≤ 1 := by omega
      clear h1 h2 hS
      have HD := hide hD; clear hD
      go_enter Tryz.func120, Tryz.ntmps120
      go_wp2_with fail
      refine (unhide HD).mono ?_
      rintro e w1 ⟨rfl, hb⟩
      go_wp2
      go_ret2
      exact ⟨rfl, hb⟩
  · rw [if_neg (by omega)]
    have h1' : ((c : Int) == 65533) = false := by rw [beq_eq_false_iff_ne]; omega
    clear h1 hS
    have HD := hide hD; clear hD
    go_enter Tryz.func120, Tryz.ntmps120
    go_wp2_with fail
    refine (unhide HD).mono ?_
    rintro e w1 ⟨rfl, hb⟩
    go_wp2
    go_ret2
    exact ⟨rfl, hb⟩
end Go.Proofs.YtcflglloopgieaaGreatDoor

/-! Wc -/
namespace Go.Proofs.YtcflglloopgieaaGreatDoor
open Go.RowKit Go.Shelf

def strLen : Value → Nat
  | .string s => s.size
  | _ => 0
theorem tabs_below {w w' : World} (h : Lib.Utf8Tabs 1 2 w) (hb : Below w.heap.size w w') : Lib.Utf8Tabs 1 2 w' := Utf8Tabs_below h hb

theorem nums_extract (u : ByteArray) (n : Nat) : nums (u.extract n u.size) = (nums u).drop n := by
  unfold nums
  rw [ByteArray.data_extract, Array.toList_extract, ← List.map_drop]
  congr 1
  rw [List.extract_eq_take_drop, List.take_of_length_le]
  rw [List.length_drop]; exact Nat.le_refl _
theorem size_extract (u : ByteArray) (n : Nat) : (u.extract n u.size).size = u.size - n := by
  rw [← nums_len, nums_extract, List.length_drop, nums_len]
set_option maxHeartbeats 400000 in
theorem valid_any (s : ByteArray) (w : World) (hT : Lib.Utf8Tabs 1 2 w) : Calls Tryz.prog 114 #[.string s] w fun e w' => e = .returned (.bool (M.valid false (nums s))) ∧ Below w.heap.size w w' := by
  have HT := hide hT; clear hT
  go_enter Tryz.func114, Tryz.ntmps114
  go_wp2
  go_loopw [0, 3] (fun t b wr => ∃ (u : ByteArray) (h : Bool), t = .string u ∧ b = .bool h ∧ M.valid false (nums s) = M.valid h (nums u) ∧ Below w.heap.size w wr) (fun t _ _ => strLen t)
  case atStart => exact ⟨s, false, rfl, rfl, rfl, Below.refl _ _⟩
  case round =>
    obtain ⟨u, h, rfl, rfl, hv, hB⟩ := hrel
    have HV := hide hv; clear hv
    have hNE : nums u = [] ↔ u.size = 0 := by rw [← nums_len, List.length_eq_zero_iff]
    cases hE : u.toList.isEmpty with
    | true =>
      have hz : nums u = [] := by
        rw [hNE, ByteArray.size, ← Array.length_toList, List.length_eq_zero_iff]
        simpa [Lib.toList_data] using hE
      go_wp2
      go_ret
      refine ⟨?_, hB⟩
      rw [unhide HV, hz]; rfl
    | false =>
      have hz : nums u ≠ [] := by
        intro e
        rw [hNE, ByteArray.size, ← Array.length_toList, List.length_eq_zero_iff] at e
        simp [Lib.toList_data, e] at hE
      have hst := M.valid_step h (nums u) hz
      have hinv := M.dec_inv (nums u) (nums_lt u)
      have hdc := decode_any u wr (tabs_below (unhide HT) hB)
      generalize M.dec (nums u) = p at *
      obtain ⟨c, n⟩ := p
      dsimp only at *
      have HD := hide hdc; clear hdc
      have HS := hide hst; clear hst
      have HN := hide hNE; clear hNE
      have HZ := hide hz; clear hz
      by_cases hn : n = 0
      · have HI := hide hinv; clear hinv
        have hn' : ((n : Int) == 0) = true := by rw [beq_iff_eq]; omega
        go_wp2_with fail
        refine (unhide HD).mono ?_
        rintro e w1 ⟨rfl, hb⟩
        go_wp2
        go_ret
        refine ⟨?_, hB.trans (hb.mono hB.size)⟩
        rw [unhide HV, unhide HS, hn]; rfl
      · obtain ⟨d1, d2, d3⟩ := hinv hn
        have hn' : ((n : Int) == 0) = false := by rw [beq_eq_false_iff_ne]; omega
        have hnle : n ≤ u.size := by
          have := congrArg List.length d2
          rw [List.length_append, nums_len] at this; omega
        have h1n : (1 : Int) ≤ (n : Int) := by omega
        have hnle' : (n : Int) ≤ (u.size : Int) := by omega
        have D2 := hide d2; clear d2
        have D3 := hide d3; clear d3
        clear hinv
        have hsz := size_extract u n
        have HZ2 := hide hsz; clear hsz
        have fin : ∀ (w2 : World), Below wr.heap.size wr w2 → (decide (n = 0) || h && M.isLo c) = false → (∃ (u_1 : ByteArray) (h : Bool),
            Value.string (u.extract n u.size) = Value.string u_1 ∧ Value.bool (hiZ ↑c) = Value.bool h ∧ M.valid false (nums s) = M.valid h (nums u_1) ∧ Below w.heap.size w w2) ∧
            strLen (Value.string (u.extract n u.size)) < strLen (Value.string u) := by
          intro w2 hb he
          refine ⟨⟨u.extract n u.size, M.isHi c, rfl, by rw [hiZ_nat], ?_, hB.trans (hb.mono hB.size)⟩, ?_⟩
          · rw [unhide HV, unhide HS, he, nums_extract]; simp
          · simp only [strLen]; rw [unhide HZ2]; omega
        have FIN := hide fin; clear fin
        cases h with
        | true =>
          go_wp2_with fail
          refine (unhide HD).mono ?_
          rintro e w1 ⟨rfl, hb⟩
          go_wp2_with fail
          refine (isLow_any _ _).mono ?_
          rintro e w2 ⟨rfl, rfl⟩
          rw [loZ_nat]
          cases hl : M.isLo c with
          | true =>
            go_wp2
            go_ret
            refine ⟨?_, hB.trans (hb.mono hB.size)⟩
            rw [unhide HV, unhide HS, hl]; simp
          | false =>
            go_wp2_with fail
            refine (isHigh_any _ _).mono ?_
            rintro e w3 ⟨rfl, rfl⟩
            go_wp2
            exact unhide FIN _ hb (by simp [hl, hn])
        | false =>
          go_wp2_with fail
          refine (unhide HD).mono ?_
          rintro e w1 ⟨rfl, hb⟩
          go_wp2_with fail
          refine (isHigh_any _ _).mono ?_
          rintro e w2 ⟨rfl, rfl⟩
          go_wp2
          exact unhide FIN _ hb (by simp [hn])
end Go.Proofs.YtcflglloopgieaaGreatDoor

/-! Mathn -/
namespace Go.Proofs.YtcflglloopgieaaGreatDoor.FM
open Ieee

/-- Of the bits of a float: the size and the sign. -/
def sz (b : Nat) : Nat := b % 2 ^ 63
def ng (b : Nat) : Bool := b / 2 ^ 63 % 2 == 1
def INF : Nat := 0x7FF * 2 ^ 52
def isN (b : Nat) : Bool := decide (INF < sz b)
def pl (b : Nat) : Int := if ng b then -(sz b : Int) else (sz b : Int)

/-- What a rung stands for, in units of the least place. -/
def vl (r : Nat) : Nat := if r < 2 ^ 52 then r else (2 ^ 52 + r % 2 ^ 52) * 2 ^ (r / 2 ^ 52 - 1)

theorem signW : double.signWeight = 2 ^ 63 := by decide +kernel
theorem binD : double.binade = 2 ^ 52 := by decide +kernel
theorem infD : double.infRung = INF := by decide +kernel
theorem leastD : double.leastPlace = -1074 := by decide +kernel

theorem read_eq (b : Nat) : double.read b =
    if sz b < 2 ^ 52 then .number (ng b) (sz b) (-1074)
    else if sz b < INF then .number (ng b) (2 ^ 52 + sz b % 2 ^ 52) (-1074 + (sz b / 2 ^ 52 - 1 : Nat))
    else if sz b = INF then .infinity (ng b)
    else .nan (ng b) (sz b - INF) := by
  unfold Format.read
  rw [signW, binD, infD, leastD]
  rfl

theorem vl_step (r : Nat) : vl r < vl (r + 1) := by
  unfold vl
  split
  · split
    · omega
    · have : r + 1 = 2 ^ 52 := by omega
      rw [this]; simp; omega
  · rename_i h
    rw [if_neg (by omega)]
    by_cases hd : (r + 1) % 2 ^ 52 = 0
    · have e1 : r % 2 ^ 52 = 2 ^ 52 - 1 := by omega
      have e2 : (r + 1) / 2 ^ 52 = r / 2 ^ 52 + 1 := by omega
      have e3 : r / 2 ^ 52 + 1 - 1 = (r / 2 ^ 52 - 1) + 1 := by omega
      rw [hd, e1, e2, e3, Nat.pow_succ 2 (r / 2 ^ 52 - 1)]
      have : 0 < 2 ^ (r / 2 ^ 52 - 1) := Nat.two_pow_pos _
      rw [Nat.add_zero]
      have q : 2 ^ 52 * (2 ^ (r / 2 ^ 52 - 1) * 2) = (2 ^ 52 + 2 ^ 52) * 2 ^ (r / 2 ^ 52 - 1) := by rw [Nat.mul_comm _ 2, ← Nat.mul_assoc]
      rw [q]
      exact Nat.mul_lt_mul_of_pos_right (by omega) this
    · have e1 : (r + 1) % 2 ^ 52 = r % 2 ^ 52 + 1 := by omega
      have e2 : (r + 1) / 2 ^ 52 = r / 2 ^ 52 := by omega
      rw [e1, e2]
      have : 0 < 2 ^ (r / 2 ^ 52 - 1) := Nat.two_pow_pos _
      exact Nat.mul_lt_mul_of_pos_right (by omega) this

theorem vl_mono {r s : Nat} (h : r < s) : vl r < vl s := by
  induction s with
  | zero => omega
  | succ n ih =>
    by_cases e : r = n
    · rw [e]; exact vl_step n
    · exact Nat.lt_trans (ih (by omega)) (vl_step n)

theorem vl_lt_iff {r s : Nat} : vl r < vl s ↔ r < s := by
  constructor
  · intro h
    rcases Nat.lt_trichotomy r s with a | a | a
    · exact a
    · rw [a] at h; omega
    · have := vl_mono a; omega
  · exact vl_mono

theorem vl_inj {r s : Nat} : vl r = vl s ↔ r = s := by
  constructor
  · intro h
    rcases Nat.lt_trichotomy r s with a | a | a
    · have := vl_mono a; omega
    · exact a
    · have := vl_mono a; omega
  · intro h; rw [h]

/-- A finite word, read: a number whose size is vl. -/
theorem read_fin (b : Nat) (h : sz b < INF) : ∃ m : Nat, ∃ k : Nat, double.read b = .number (ng b) m (-1074 + (k : Int)) ∧ m * 2 ^ k = vl (sz b) := by
  rw [read_eq]
  by_cases h1 : sz b < 2 ^ 52
  · rw [if_pos h1]
    exact ⟨sz b, 0, by simp, by unfold vl; rw [if_pos h1]; simp⟩
  · rw [if_neg h1, if_pos h]
    exact ⟨_, _, rfl, by unfold vl; rw [if_neg h1]⟩

theorem read_inf (b : Nat) (h : sz b = INF) : double.read b = .infinity (ng b) := by
  rw [read_eq, h]; simp [INF]

theorem read_nan (b : Nat) (h : INF < sz b) : double.read b = .nan (ng b) (sz b - INF) := by
  rw [read_eq, if_neg (by unfold INF at h; omega), if_neg (by omega), if_neg (by omega)]

theorem cmp_mul (a b : Int) (p : Nat) (hp : 0 < p) : compare (a * p) (b * p) = compare a b := by
  have hp' : (0 : Int) < p := by omega
  rcases Int.lt_trichotomy a b with h | h | h
  · rw [Int.compare_eq_lt.2 h, Int.compare_eq_lt.2 (Int.mul_lt_mul_of_pos_right h hp')]
  · subst h; simp
  · rw [Int.compare_eq_gt.2 h, Int.compare_eq_gt.2 (Int.mul_lt_mul_of_pos_right h hp')]

def sgn (s : Bool) (n : Nat) : Int := if s then -(n : Int) else n

theorem cmp_sgn (s t : Bool) (a b : Nat) : compare (sgn s (vl a)) (sgn t (vl b)) = compare (sgn s a) (sgn t b) := by
  have z : vl 0 = 0 := by decide
  have m1 : ∀ x, x ≤ vl x := by
    intro x; induction x with
    | zero => omega
    | succ n ih => have := vl_step n; omega
  have key : ∀ x y : Int, ∀ x' y' : Int, (x < y ↔ x' < y') → (x = y ↔ x' = y') → compare x y = compare x' y' := by
    intro x y x' y' h1 h2
    rcases Int.lt_trichotomy x y with h | h | h
    · rw [Int.compare_eq_lt.2 h, Int.compare_eq_lt.2 (h1.1 h)]
    · rw [Int.compare_eq_eq.2 h, Int.compare_eq_eq.2 (h2.1 h)]
    · have : y' < x' := by
        rcases Int.lt_trichotomy x' y' with g | g | g
        · have := h1.2 g; omega
        · have := h2.2 g; omega
        · exact g
      rw [Int.compare_eq_gt.2 h, Int.compare_eq_gt.2 this]
  have h1 := @vl_lt_iff a b
  have h2 := @vl_lt_iff b a
  have h3 := @vl_inj a b
  have pa : 0 < vl a ↔ 0 < a := by rw [← z]; rw [vl_lt_iff, z]
  have pb : 0 < vl b ↔ 0 < b := by rw [← z]; rw [vl_lt_iff, z]
  apply key <;> cases s <;> cases t <;> simp only [sgn] <;> simp <;> omega

theorem order_eq (x y : Nat) : double.order x y = if isN x || isN y then none else some (compare (pl x) (pl y)) := by
  unfold Format.order
  have plx : ∀ b, pl b = sgn (ng b) (sz b) := fun b => rfl
  rw [plx, plx]
  unfold isN
  rcases Nat.lt_trichotomy (sz x) INF with hx | hx | hx
  · rcases Nat.lt_trichotomy (sz y) INF with hy | hy | hy
    · obtain ⟨m, k, e1, v1⟩ := read_fin x hx
      obtain ⟨n, l, e2, v2⟩ := read_fin y hy
      rw [e1, e2]
      have : ¬ INF < sz x := by omega
      have : ¬ INF < sz y := by omega
      simp only [*, decide_false, Bool.or_self, Bool.false_eq_true, if_false]
      rw [← cmp_sgn, ← v1, ← v2]
      unfold Datum.order
      simp only [Option.some.injEq]
      have sg : ∀ (s : Bool) (a u v : Nat), signed s a u * ((2 ^ v : Nat) : Int) = sgn s (a * 2 ^ (u + v)) := by
        intro s a u v
        unfold signed sgn
        rw [Nat.shiftLeft_eq, Nat.pow_add, ← Nat.mul_assoc]
        cases s <;> simp [Int.neg_mul]
      rcases Nat.le_total k l with h | h
      · have e : min (-1074 + (k : Int)) (-1074 + (l : Int)) = -1074 + k := by omega
        rw [e]
        have a1 : (-1074 + (k : Int) - (-1074 + k)).toNat = 0 := by omega
        have a2 : (-1074 + (l : Int) - (-1074 + k)).toNat = l - k := by omega
        rw [a1, a2, ← cmp_mul _ _ (2 ^ k) (Nat.two_pow_pos _), sg, sg]
        first | rw [Nat.zero_add, Nat.sub_add_cancel h]
      · have e : min (-1074 + (k : Int)) (-1074 + (l : Int)) = -1074 + l := by omega
        rw [e]
        have a1 : (-1074 + (k : Int) - (-1074 + l)).toNat = k - l := by omega
        have a2 : (-1074 + (l : Int) - (-1074 + l)).toNat = 0 := by omega
        rw [a1, a2, ← cmp_mul _ _ (2 ^ l) (Nat.two_pow_pos _), sg, sg]
        first | rw [Nat.zero_add, Nat.sub_add_cancel h]
    · obtain ⟨m, k, e1, v1⟩ := read_fin x hx
      rw [e1, read_inf y hy, hy]
      have : ¬ INF < sz x := by omega
      simp only [*, decide_false, Bool.or_self, Bool.false_eq_true, if_false, Nat.lt_irrefl]
      unfold Datum.order
      simp only [Option.some.injEq]
      cases ng y
      · rw [if_neg (by decide)]; symm; rw [Int.compare_eq_lt]; unfold sgn; simp only [Bool.false_eq_true, if_false]; split <;> omega
      · rw [if_pos (by decide)]; symm; rw [Int.compare_eq_gt]; unfold sgn; simp only [if_true]; split <;> omega
    · have : INF < sz y := hy
      obtain ⟨m, k, e1, v1⟩ := read_fin x hx
      rw [e1, read_nan y hy]
      simp [this, Datum.order]
  · rcases Nat.lt_trichotomy (sz y) INF with hy | hy | hy
    · obtain ⟨m, k, e1, v1⟩ := read_fin y hy
      rw [e1, read_inf x hx, hx]
      have : ¬ INF < sz y := by omega
      simp only [*, decide_false, Bool.or_self, Bool.false_eq_true, if_false, Nat.lt_irrefl]
      unfold Datum.order
      simp only [Option.some.injEq]
      cases ng x
      · rw [if_neg (by decide)]; symm; rw [Int.compare_eq_gt]; unfold sgn; simp only [Bool.false_eq_true, if_false]; split <;> omega
      · rw [if_pos (by decide)]; symm; rw [Int.compare_eq_lt]; unfold sgn; simp only [if_true]; split <;> omega
    · rw [read_inf x hx, read_inf y hy, hx, hy]
      simp only [decide_false, Bool.or_self, Bool.false_eq_true, if_false, Nat.lt_irrefl]
      unfold Datum.order
      cases ng x <;> cases ng y <;> decide
    · rw [read_inf x hx, read_nan y hy]
      simp [hy, Datum.order]
  · rw [read_nan x hx]
    simp [hx, Datum.order]

theorem pl_eq (x y : Nat) (hx : x < 2 ^ 64) (hy : y < 2 ^ 64) : pl x = pl y ↔ (x = y ∨ (sz x = 0 ∧ sz y = 0)) := by
  unfold pl ng sz
  by_cases h1 : x / 2 ^ 63 % 2 = 1 <;> by_cases h2 : y / 2 ^ 63 % 2 = 1 <;> simp [h1, h2] <;> omega

theorem eqF (x y : Nat) (hx : x < 2 ^ 64) (hy : y < 2 ^ 64) : (double.order x y == some .eq) = (!isN x && !isN y && (decide (x = y) || (decide (sz x = 0) && decide (sz y = 0)))) := by
  rw [order_eq]
  have h := pl_eq x y hx hy
  cases isN x <;> cases isN y <;> simp
  rw [Bool.eq_iff_iff]
  simp [h]

theorem nanF (x : Nat) : (double.order x x != some .eq) = isN x := by
  rw [order_eq]
  cases isN x <;> simp

end Go.Proofs.YtcflglloopgieaaGreatDoor.FM
