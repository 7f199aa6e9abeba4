import Derived.Test.YtmemceindohklaaDoorChecked
import Derived.Maps.OwnSet
import Derived.Maps.Own
import Derived.DeepKeys4
import Derived.WalkKit
import Derived.Shelf.Unicode.DecodeSlow
import Derived.Shelf.Unicode.DecodeAny
import Derived.Test.YtmemceindohklaaDoorProg
import GoSem.Claim
import Derived.Below
import Derived.Deep.QuietTactic
import Derived.BigQuiet
import Derived.Laws.BitsLemmas
import Derived.WalkSmall
import Derived.WalkSpells
import Derived.WalkLawsBesides
import Derived.Laws.BitsAllLaws
import Derived.Laws.AppendOwn
import Derived.Deep.LoopGhost
import Derived.Sort.Statements
import Derived.BigRegion
import Derived.LoopTactic
import Derived.RangeFuncNested
import Derived.RangeFuncBound
import Derived.RangeFuncCalls
import Derived.RangeFuncLeaves
import Derived.RangeFuncBox
import Derived.Shelf.Abstract
import Derived.Shelf.RegionOpen
import Derived.OwnWalkIn
import Derived.TacticsInMore
import Derived.LoopNIn
import Derived.LoopIn
import Derived.Maps.AppendAt

/-! Ma -/
namespace Go.Proofs.YtmemceindohklaaDoor
open Go Go.Proofs Go.Maps
set_option linter.unusedSimpArgs false
set_option linter.unusedVariables false

theorem laidOut : laidOutB Tryd.prog = true := by kernel_rfl
theorem row33 : (34 : TypeId) < Tryd.prog.types.size := of_decide_eq_true (by kernel_rfl)
theorem key33 : Tryd.prog.keyTypeAt 2 34 = true := by kernel_rfl
theorem law33 : Keyed Tryd.prog 34 := Keyed.of_law (deep_law_laid laidOut (m := 2) (by omega) row33 key33 (by rw [Tryd.underlying34]))
theorem keyT33 : Tryd.prog.keyType 34 = true := by kernel_rfl
theorem size_types' : decide ((1 : Nat) ≤ Tryd.prog.types.size) = true := by kernel_rfl
theorem size_types : ∃ n : Nat, Tryd.prog.types.size + 1 = n + 2 := by
  have h : (1 : Nat) ≤ Tryd.prog.types.size := of_decide_eq_true size_types'
  generalize Tryd.prog.types.size = m at h
  exact ⟨m - 1, by omega⟩
/-- What a key reads as. -/
def klit (s : ByteArray) (n : Int) : Lit := .string (keyBytes [.string s.data.toList, .int .i64 n])
theorem keyOf33 (s : ByteArray) (n : Int) (hs : s.size ≤ maxLen) (hn : (Lit.int .i64 n).wf = true) : keyOf Tryd.prog 34 (.agg #[.string s, .int .i64 n]) = some (klit s n) := by
  obtain ⟨N, hN⟩ := size_types
  unfold keyOf
  rw [Tryd.underlying34]
  simp only []
  rw [hN]
  have c33 : Tryd.prog.cellsOf 34 = 2 := by kernel_rfl
  have hf : Value.formed Tryd.prog 34 (.agg #[.string s, .int .i64 n]) = true := by
    simp [Value.formed, Tryd.underlying34, Tryd.underlying3, Tryd.underlying9, c33]
  have c9 : Tryd.prog.cellsOf 9 = 1 := by kernel_rfl
  have c3 : Tryd.prog.cellsOf 3 = 1 := by kernel_rfl
  rw [hf, keyT33]
  simp [Program.keyLits, Tryd.underlying34, Tryd.underlying3, Tryd.underlying9, c9, c3, c33, hs, hn, Value.cells, klit]
theorem klit_inj {s s' : ByteArray} {n n' : Int} (hs : s.size ≤ maxLen) (hn : (Lit.int .i64 n).wf = true) (hs' : s'.size ≤ maxLen) (hn' : (Lit.int .i64 n').wf = true) (h : klit s n = klit s' n') : s = s' ∧ n = n' := by
  have := law33.inj (keyOf33 s n hs hn) (h ▸ keyOf33 s' n' hs' hn')
  simpa using this
theorem klit_key {s : ByteArray} {n : Int} (hs : s.size ≤ maxLen) (hn : (Lit.int .i64 n).wf = true) : WideAt.IsKeyLit (klit s n) := law33.key (keyOf33 s n hs hn)
end Go.Proofs.YtmemceindohklaaDoor

/-
  THE SHELF's CONTRACTS for unicode/utf8's AppendRune and DecodeRuneInString, laid at this program in plain words (by lay-plain.mjs).
-/
namespace Go.Proofs
open Go.Shelf
def Tryd.lays260_ren : Go.Shelf.Ren := ⟨fun | 260 => 92 | n => n, fun | 9 => 9 | 21 => 21 | 3 => 3 | 4 => 4 | 5 => 5 | 119 => 157 | 0 => 0 | 46 => 99 | 139 => 160 | 138 => 159 | n => n, fun | 3 => 4 | 4 => 5 | n => n⟩
theorem Tryd.lays260 : Go.Proofs.Lays.n260 Tryd.prog Tryd.lays260_ren := {
  mixed := by kernel_rfl
  f260 := Tryd.func92.trans (congrArg some (by kernel_rfl))
  t0 := Tryd.underlying0
  a0 := Tryd.isAgg0
  z0 := Tryd.sizeOf0
  v0 := Tryd.zeroValue0
  t3 := Tryd.underlying3
  a3 := Tryd.isAgg3
  z3 := Tryd.sizeOf3
  v3 := Tryd.zeroValue3
  t4 := Tryd.underlying4
  a4 := Tryd.isAgg4
  z4 := Tryd.sizeOf4
  v4 := Tryd.zeroValue4
  t5 := Tryd.underlying5
  a5 := Tryd.isAgg5
  z5 := Tryd.sizeOf5
  v5 := Tryd.zeroValue5
  t9 := Tryd.underlying9
  a9 := Tryd.isAgg9
  z9 := Tryd.sizeOf9
  v9 := Tryd.zeroValue9
  t21 := Tryd.underlying21
  a21 := Tryd.isAgg21
  z21 := Tryd.sizeOf21
  v21 := Tryd.zeroValue21
  t46 := Tryd.underlying99
  a46 := Tryd.isAgg99
  z46 := Tryd.sizeOf99
  v46 := Tryd.zeroValue99
  t119 := Tryd.underlying157
  a119 := Tryd.isAgg157
  z119 := Tryd.sizeOf157
  t138 := Tryd.underlying159
  a138 := Tryd.isAgg159
  z138 := Tryd.sizeOf159
  v138 := Tryd.zeroValue159
  t139 := Tryd.underlying160
  a139 := Tryd.isAgg160
  z139 := Tryd.sizeOf160
  v139 := Tryd.zeroValue160
  g3 := by kernel_rfl
  g4 := by kernel_rfl }
open Go.RowKit Go.Lib in
theorem Tryd.utf8_decodeRuneInStringSlow (s : ByteArray) (w : World) (hT : Lib.Utf8Tabs 4 5 w) :
    Calls Tryd.prog 92 #[.string s] w fun e w' => e = .returned (.tuple #[.int .i32 (Lib.decodeGo s).1, .int .i64 (Lib.decodeGo s).2]) ∧ Below w.heap.size w w' := Any.utf8_decodeRuneInStringSlow Tryd.lays260 s w hT
def Tryd.lays197_ren : Go.Shelf.Ren := ⟨fun | 197 => 88 | 260 => 92 | n => n, fun | 9 => 9 | 21 => 21 | 3 => 3 | 4 => 4 | 5 => 5 | 105 => 144 | 119 => 157 | 0 => 0 | 46 => 99 | 139 => 160 | 138 => 159 | n => n, fun | 3 => 4 | 4 => 5 | n => n⟩
theorem Tryd.lays197 : Go.Proofs.Lays.n197 Tryd.prog Tryd.lays197_ren := {
  mixed := by kernel_rfl
  f197 := Tryd.func88.trans (congrArg some (by kernel_rfl))
  f260 := Tryd.func92.trans (congrArg some (by kernel_rfl))
  t0 := Tryd.underlying0
  a0 := Tryd.isAgg0
  z0 := Tryd.sizeOf0
  v0 := Tryd.zeroValue0
  t3 := Tryd.underlying3
  a3 := Tryd.isAgg3
  z3 := Tryd.sizeOf3
  v3 := Tryd.zeroValue3
  t4 := Tryd.underlying4
  a4 := Tryd.isAgg4
  z4 := Tryd.sizeOf4
  v4 := Tryd.zeroValue4
  t5 := Tryd.underlying5
  a5 := Tryd.isAgg5
  z5 := Tryd.sizeOf5
  v5 := Tryd.zeroValue5
  t9 := Tryd.underlying9
  a9 := Tryd.isAgg9
  z9 := Tryd.sizeOf9
  v9 := Tryd.zeroValue9
  t21 := Tryd.underlying21
  a21 := Tryd.isAgg21
  z21 := Tryd.sizeOf21
  v21 := Tryd.zeroValue21
  t46 := Tryd.underlying99
  a46 := Tryd.isAgg99
  z46 := Tryd.sizeOf99
  v46 := Tryd.zeroValue99
  t105 := Tryd.underlying144
  a105 := Tryd.isAgg144
  z105 := Tryd.sizeOf144
  v105 := Tryd.zeroValue144
  t119 := Tryd.underlying157
  a119 := Tryd.isAgg157
  z119 := Tryd.sizeOf157
  t138 := Tryd.underlying159
  a138 := Tryd.isAgg159
  z138 := Tryd.sizeOf159
  v138 := Tryd.zeroValue159
  t139 := Tryd.underlying160
  a139 := Tryd.isAgg160
  z139 := Tryd.sizeOf160
  v139 := Tryd.zeroValue160
  g3 := by kernel_rfl
  g4 := by kernel_rfl }
open Go.RowKit Go.Lib in
/-- **unicode/utf8.DecodeRuneInString AT EVERY STRING.** (LAID: no walk: one application.) -/
theorem Tryd.utf8_DecodeRuneInString (s : ByteArray) (w : World) (hT : Lib.Utf8Tabs 4 5 w) :
    Calls Tryd.prog 88 #[.string s] w fun e w' => e = .returned (.tuple #[.int .i32 (Lib.decodeGo s).1, .int .i64 (Lib.decodeGo s).2]) ∧ Below w.heap.size w w' := Any.utf8_DecodeRuneInString Tryd.lays197 s w hT
end Go.Proofs

/-! Math -/
namespace Go.Proofs.YtmemceindohklaaDoor
namespace M

def isHi (c : Nat) : Bool := decide (55296 ≤ c) && decide (c < 56320)
def isLo (c : Nat) : Bool := decide (56320 ≤ c) && decide (c ≤ 57343)
/-- A code point as its bytes. -/
def E (c : Nat) : List Nat :=
  if c < 128 then [c] else if c < 2048 then [192 + c / 64, 128 + c % 64]
  else if c < 65536 then [224 + c / 4096, 128 + c / 64 % 64, 128 + c % 64]
  else [240 + c / 262144, 128 + c / 4096 % 64, 128 + c / 64 % 64, 128 + c % 64]
/-- A code point as its units. -/
def U (c : Nat) : List Nat := if c < 65536 then [c] else [55296 + (c - 65536) / 1024, 56320 + (c - 65536) % 1024]
def noPair : Bool → List Nat → Bool
  | _, [] => true
  | h, c :: r => !(h && isLo c) && noPair (isHi c) r

def okc (c : Nat) : Bool := decide (c < 55296) || (decide (57343 < c) && decide (c ≤ 1114111))
/-- Go's own decoder, over numbers. -/
def goD (l : List Nat) : Nat × Nat :=
  if l.length = 0 then (65533, 0) else
  if l.getD 0 0 < 128 then (l.getD 0 0, 1) else
  if l.getD 0 0 / 32 = 6 ∧ 1 < l.length ∧ l.getD 1 0 / 64 = 2 then
    (if 128 ≤ l.getD 0 0 % 32 * 64 + l.getD 1 0 % 64 then (l.getD 0 0 % 32 * 64 + l.getD 1 0 % 64, 2) else (65533, 1)) else
  if l.getD 0 0 / 16 = 14 ∧ 1 < l.length ∧ l.getD 1 0 / 64 = 2 ∧ 2 < l.length ∧ l.getD 2 0 / 64 = 2 then
    (if 2048 ≤ l.getD 0 0 % 16 * 4096 + l.getD 1 0 % 64 * 64 + l.getD 2 0 % 64 ∧ okc (l.getD 0 0 % 16 * 4096 + l.getD 1 0 % 64 * 64 + l.getD 2 0 % 64) = true then (l.getD 0 0 % 16 * 4096 + l.getD 1 0 % 64 * 64 + l.getD 2 0 % 64, 3) else (65533, 1)) else
  if l.getD 0 0 / 8 = 30 ∧ 1 < l.length ∧ l.getD 1 0 / 64 = 2 ∧ 2 < l.length ∧ l.getD 2 0 / 64 = 2 ∧ 3 < l.length ∧ l.getD 3 0 / 64 = 2 then
    (if 65536 ≤ l.getD 0 0 % 8 * 262144 + l.getD 1 0 % 64 * 4096 + l.getD 2 0 % 64 * 64 + l.getD 3 0 % 64 ∧ okc (l.getD 0 0 % 8 * 262144 + l.getD 1 0 % 64 * 4096 + l.getD 2 0 % 64 * 64 + l.getD 3 0 % 64) = true then (l.getD 0 0 % 8 * 262144 + l.getD 1 0 % 64 * 4096 + l.getD 2 0 % 64 * 64 + l.getD 3 0 % 64, 4) else (65533, 1)) else
  (65533, 1)
def surr (l : List Nat) : Nat × Nat :=
  if l.length < 3 ∨ l.getD 0 0 ≠ 237 ∨ l.getD 1 0 / 32 ≠ 5 ∨ l.getD 2 0 / 64 ≠ 2 then (0, 0) else (55296 + l.getD 1 0 % 32 * 64 + l.getD 2 0 % 64, 3)
def dec (l : List Nat) : Nat × Nat := if (goD l).1 = 65533 ∧ (goD l).2 ≤ 1 then surr l else goD l

theorem okc_iff (c : Nat) : okc c = true ↔ (c < 55296 ∨ (57343 < c ∧ c ≤ 1114111)) := by simp [okc]

theorem E_len (c : Nat) : 1 ≤ (E c).length ∧ (E c).length ≤ 4 := by
  unfold E; repeat' split
  all_goals simp

set_option maxHeartbeats 1000000 in
theorem goD_E (c : Nat) (r : List Nat) (hc : c ≤ 1114111) (hs : ¬ (55296 ≤ c ∧ c ≤ 57343)) : goD (E c ++ r) = (c, (E c).length) := by
  unfold E
  by_cases h1 : c < 128
  · simp [h1, goD]
  by_cases h2 : c < 2048
  · rw [if_neg h1, if_pos h2]
    simp only [goD, List.getD_cons_zero, List.getD_cons_succ, List.cons_append, List.nil_append, List.length_cons, List.length_nil, okc_iff]
    repeat' split
    all_goals first | (exfalso; omega) | (refine Prod.ext ?_ ?_ <;> dsimp only <;> omega)
  by_cases h3 : c < 65536
  · rw [if_neg h1, if_neg h2, if_pos h3]
    simp only [goD, List.getD_cons_zero, List.getD_cons_succ, List.cons_append, List.nil_append, List.length_cons, List.length_nil, okc_iff]
    repeat' split
    all_goals first | (exfalso; omega) | (refine Prod.ext ?_ ?_ <;> dsimp only <;> omega)
  · rw [if_neg h1, if_neg h2, if_neg h3]
    simp only [goD, List.getD_cons_zero, List.getD_cons_succ, List.cons_append, List.nil_append, List.length_cons, List.length_nil, okc_iff]
    repeat' split
    all_goals first | (exfalso; omega) | (refine Prod.ext ?_ ?_ <;> dsimp only <;> omega)

theorem goD_sur (c : Nat) (r : List Nat) (h0 : 55296 ≤ c) (h1 : c ≤ 57343) : goD (E c ++ r) = (65533, 1) ∧ surr (E c ++ r) = (c, (E c).length) := by
  unfold E
  rw [if_neg (by omega), if_neg (by omega), if_pos (by omega)]
  constructor
  · simp only [goD, List.getD_cons_zero, List.getD_cons_succ, List.cons_append, List.nil_append, List.length_cons, okc_iff]
    repeat' split
    all_goals first | (exfalso; omega) | rfl | (refine Prod.ext ?_ ?_ <;> dsimp only <;> omega)
  · simp only [surr, List.getD_cons_zero, List.getD_cons_succ, List.cons_append, List.nil_append, List.length_cons, List.length_nil]
    repeat' split
    all_goals first | (exfalso; omega) | (refine Prod.ext ?_ ?_ <;> dsimp only <;> omega)

theorem dec_E (c : Nat) (r : List Nat) (hc : c ≤ 1114111) : dec (E c ++ r) = (c, (E c).length) := by
  unfold dec
  by_cases hs : 55296 ≤ c ∧ c ≤ 57343
  · obtain ⟨h1, h2⟩ := goD_sur c r hs.1 hs.2
    rw [h1, h2]; simp
  · rw [goD_E c r hc hs, if_neg]
    rintro ⟨h1, h2⟩
    simp only at h1 h2
    subst h1
    simp [E] at h2


theorem len1 : ∀ (l : List Nat), 0 < l.length → ∃ a t, l = a :: t
  | a :: t, _ => ⟨a, t, rfl⟩
theorem len2 : ∀ (l : List Nat), 1 < l.length → ∃ a b t, l = a :: b :: t
  | a :: b :: t, _ => ⟨a, b, t, rfl⟩
theorem len3 : ∀ (l : List Nat), 2 < l.length → ∃ a b c t, l = a :: b :: c :: t
  | a :: b :: c :: t, _ => ⟨a, b, c, t, rfl⟩
theorem len4 : ∀ (l : List Nat), 3 < l.length → ∃ a b c d t, l = a :: b :: c :: d :: t
  | a :: b :: c :: d :: t, _ => ⟨a, b, c, d, t, rfl⟩
theorem goD_cases (l : List Nat) (hb : ∀ x ∈ l, x < 256) : ((goD l).1 = 65533 ∧ (goD l).2 ≤ 1) ∨ (∃ b0 t, l = b0 :: t ∧ b0 < 128 ∧ goD l = (b0, 1)) ∨
    (∃ b0 b1 t, l = b0 :: b1 :: t ∧ b0 / 32 = 6 ∧ b1 / 64 = 2 ∧ 128 ≤ b0 % 32 * 64 + b1 % 64 ∧ goD l = (b0 % 32 * 64 + b1 % 64, 2)) ∨
    (∃ b0 b1 b2 t, l = b0 :: b1 :: b2 :: t ∧ b0 / 16 = 14 ∧ b1 / 64 = 2 ∧ b2 / 64 = 2 ∧ 2048 ≤ b0 % 16 * 4096 + b1 % 64 * 64 + b2 % 64 ∧ goD l = (b0 % 16 * 4096 + b1 % 64 * 64 + b2 % 64, 3)) ∨
    (∃ b0 b1 b2 b3 t, l = b0 :: b1 :: b2 :: b3 :: t ∧ b0 / 8 = 30 ∧ b1 / 64 = 2 ∧ b2 / 64 = 2 ∧ b3 / 64 = 2 ∧ 65536 ≤ b0 % 8 * 262144 + b1 % 64 * 4096 + b2 % 64 * 64 + b3 % 64 ∧ b0 % 8 * 262144 + b1 % 64 * 4096 + b2 % 64 * 64 + b3 % 64 ≤ 1114111 ∧ goD l = (b0 % 8 * 262144 + b1 % 64 * 4096 + b2 % 64 * 64 + b3 % 64, 4)) := by
  obtain ⟨v, hv⟩ : ∃ v, goD l = v := ⟨_, rfl⟩
  rw [hv]
  unfold goD at hv
  repeat' split at hv
  all_goals subst hv
  all_goals first | (left; simp; done) | skip
  · rename_i h0 h1
    right; left
    obtain ⟨b0, t, rfl⟩ := len1 l (by omega)
    exact ⟨b0, t, rfl, by simpa using h1, by simp⟩
  · rename_i h0 h1 h2 h3
    right; right; left
    obtain ⟨b0, b1, t, rfl⟩ := len2 l h2.2.1
    simp only [List.getD_cons_zero, List.getD_cons_succ] at h2 h3 ⊢; exact ⟨b0, b1, t, rfl, h2.1, h2.2.2, h3, rfl⟩
  · rename_i h0 h1 h2 h3 h4
    right; right; right; left
    obtain ⟨b0, b1, b2, t, rfl⟩ := len3 l h3.2.2.2.1
    simp only [List.getD_cons_zero, List.getD_cons_succ] at h3 h4 ⊢; exact ⟨b0, b1, b2, t, rfl, h3.1, h3.2.2.1, h3.2.2.2.2, h4.1, rfl⟩
  · rename_i h0 h1 h2 h3 h4 h5
    right; right; right; right
    obtain ⟨b0, b1, b2, b3, t, rfl⟩ := len4 l h4.2.2.2.2.2.1
    simp only [List.getD_cons_zero, List.getD_cons_succ, okc_iff] at h4 h5 ⊢; exact ⟨b0, b1, b2, b3, t, rfl, h4.1, h4.2.2.1, h4.2.2.2.2.1, h4.2.2.2.2.2.2, h5.1, by omega, rfl⟩

theorem goD_inv (l : List Nat) (hb : ∀ x ∈ l, x < 256) (hne : ¬ ((goD l).1 = 65533 ∧ (goD l).2 ≤ 1)) :
    (goD l).1 ≤ 1114111 ∧ l = E (goD l).1 ++ l.drop (goD l).2 ∧ (goD l).2 = (E (goD l).1).length := by
  rcases goD_cases l hb with h | ⟨b0, t, hl, h1, hv⟩ | ⟨b0, b1, t, hl, h1, h2, h3, hv⟩ | ⟨b0, b1, b2, t, hl, h1, h2, h3, h4, hv⟩ | ⟨b0, b1, b2, b3, t, hl, h1, h2, h3, h4, h5, h6, hv⟩
  · exact absurd h hne
  · rw [hv]; subst hl; simp [E, h1]; omega
  · rw [hv]; subst hl
    simp only [E]
    rw [if_neg (by omega), if_pos (by omega)]
    refine ⟨by omega, ?_, by simp⟩
    simp only [List.drop_succ_cons, List.drop_zero, List.cons_append, List.nil_append, List.cons.injEq, and_true]
    omega
  · rw [hv]; subst hl
    simp only [E]
    rw [if_neg (by omega), if_neg (by omega), if_pos (by omega)]
    refine ⟨by omega, ?_, by simp⟩
    simp only [List.drop_succ_cons, List.drop_zero, List.cons_append, List.nil_append, List.cons.injEq, and_true]
    omega
  · rw [hv]; subst hl
    simp only [E]
    rw [if_neg (by omega), if_neg (by omega), if_neg (by omega)]
    refine ⟨by omega, ?_, by simp⟩
    simp only [List.drop_succ_cons, List.drop_zero, List.cons_append, List.nil_append, List.cons.injEq, and_true]
    omega

theorem surr_inv (l : List Nat) (hn : (surr l).2 ≠ 0) :
    (surr l).1 ≤ 1114111 ∧ l = E (surr l).1 ++ l.drop (surr l).2 ∧ (surr l).2 = (E (surr l).1).length := by
  unfold surr at *
  by_cases h : l.length < 3 ∨ l.getD 0 0 ≠ 237 ∨ l.getD 1 0 / 32 ≠ 5 ∨ l.getD 2 0 / 64 ≠ 2
  · rw [if_pos h] at hn; simp at hn
  · rw [if_neg h]
    match l, h with
    | [], h => simp at h
    | [_], h => simp at h
    | [_, _], h => simp at h
    | b0 :: b1 :: b2 :: t, h =>
      simp at h
      obtain ⟨rfl, h1, h2⟩ := h
      simp only [List.getD_cons_zero, List.getD_cons_succ]
      have n1 : ¬ (55296 + b1 % 32 * 64 + b2 % 64 < 128) := by omega
      have n2 : ¬ (55296 + b1 % 32 * 64 + b2 % 64 < 2048) := by omega
      have n3 : 55296 + b1 % 32 * 64 + b2 % 64 < 65536 := by omega
      simp [E, n1, n2, n3]; omega

theorem dec_inv (l : List Nat) (hb : ∀ x ∈ l, x < 256) (hn : (dec l).2 ≠ 0) :
    (dec l).1 ≤ 1114111 ∧ l = E (dec l).1 ++ l.drop (dec l).2 ∧ (dec l).2 = (E (dec l).1).length := by
  unfold dec at *
  split
  · rename_i h; rw [if_pos h] at hn; exact surr_inv l hn
  · rename_i h; exact goD_inv l hb h

/-- The scan of Valid. -/
def vF : Nat → Bool → List Nat → Bool
  | 0, _, l => l.isEmpty
  | f + 1, h, l => if l.isEmpty then true else if (dec l).2 = 0 || (h && isLo (dec l).1) then false else vF f (isHi (dec l).1) (l.drop (dec l).2)

theorem vF_fuel : ∀ (f g : Nat) (h : Bool) (l : List Nat), l.length ≤ f → l.length ≤ g → vF f h l = vF g h l := by
  intro f
  induction f with
  | zero =>
    intro g h l h1 h2
    have : l = [] := List.eq_nil_of_length_eq_zero (by omega)
    subst this
    cases g <;> simp [vF]
  | succ f ih =>
    intro g h l h1 h2
    cases l with
    | nil => cases g <;> simp [vF]
    | cons x t =>
      cases g with
      | zero => simp at h2
      | succ g =>
        simp only [vF]
        split
        · rfl
        · split
          · rfl
          · rename_i hz
            have : (dec (x :: t)).2 ≠ 0 := by intro e; simp [e] at hz
            apply ih <;> (simp only [List.length_drop, List.length_cons] at *; omega)

def valid (h : Bool) (l : List Nat) : Bool := vF l.length h l
theorem valid_nil (h : Bool) : valid h [] = true := rfl
theorem valid_step (h : Bool) (l : List Nat) (hne : l ≠ []) : valid h l = if (dec l).2 = 0 || (h && isLo (dec l).1) then false else valid (isHi (dec l).1) (l.drop (dec l).2) := by
  cases l with
  | nil => exact absurd rfl hne
  | cons x t =>
    unfold valid
    simp only [List.length_cons, vF, List.isEmpty_cons, Bool.false_eq_true, if_false]
    split
    · rfl
    · rename_i hz
      have : (dec (x :: t)).2 ≠ 0 := by intro e; simp [e] at hz
      apply vF_fuel <;> (simp only [List.length_drop, List.length_cons]; omega)

def small (cs : List Nat) : Prop := ∀ c ∈ cs, c ≤ 1114111
def Wtf (l cs : List Nat) : Prop := l = cs.flatMap E ∧ small cs ∧ noPair false cs = true

theorem valid_of : ∀ (cs : List Nat) (h : Bool), small cs → noPair h cs = true → valid h (cs.flatMap E) = true := by
  intro cs
  induction cs with
  | nil => intro h _ _; rfl
  | cons c r ih =>
    intro h hs hp
    have hc : c ≤ 1114111 := hs c (by simp)
    have hr : small r := fun x hx => hs x (by simp [hx])
    simp only [noPair, Bool.and_eq_true, Bool.not_eq_true'] at hp
    have hE := E_len c
    rw [List.flatMap_cons, valid_step, dec_E c _ hc]
    · have : (E c).length ≠ 0 := by omega
      simp [this, hp.1, ih _ hr hp.2]
    · intro e; have := congrArg List.length e; simp at this; simp [this.1] at hE

theorem valid_inv : ∀ (n : Nat) (h : Bool) (l : List Nat), l.length ≤ n → (∀ x ∈ l, x < 256) → valid h l = true → ∃ cs, l = cs.flatMap E ∧ small cs ∧ noPair h cs = true := by
  intro n
  induction n with
  | zero =>
    intro h l hl _ _
    have : l = [] := List.eq_nil_of_length_eq_zero (by omega)
    subst this
    exact ⟨[], rfl, by intro c hc; simp at hc, rfl⟩
  | succ n ih =>
    intro h l hl hb hv
    by_cases hne : l = []
    · subst hne; exact ⟨[], rfl, by intro c hc; simp at hc, rfl⟩
    · rw [valid_step h l hne] at hv
      split at hv
      · simp at hv
      · rename_i hz
        have hz1 : (dec l).2 ≠ 0 := by intro e; simp [e] at hz
        have hz2 : (h && isLo (dec l).1) = false := by
          cases hh : (h && isLo (dec l).1) with
          | false => rfl
          | true => rw [hh] at hz; simp at hz
        obtain ⟨d1, d2, d3⟩ := dec_inv l hb hz1
        have hl0 : 0 < l.length := List.length_pos_iff.2 hne
        obtain ⟨cs, e, s, p⟩ := ih (isHi (dec l).1) (l.drop (dec l).2) (by simp; omega) (fun x hx => hb x (List.mem_of_mem_drop hx)) hv
        refine ⟨(dec l).1 :: cs, ?_, ?_, ?_⟩
        · rw [List.flatMap_cons, ← e]; exact d2
        · intro c hc
          simp only [List.mem_cons] at hc
          rcases hc with rfl | hc
          · exact d1
          · exact s c hc
        · simp [noPair, hz2, p]

theorem valid_iff (l : List Nat) (hb : ∀ x ∈ l, x < 256) : valid false l = true ↔ ∃ cs, Wtf l cs :=
  ⟨fun h => valid_inv l.length false l (Nat.le_refl _) hb h, fun ⟨cs, e, s, p⟩ => by rw [e]; exact valid_of cs false s p⟩

/-! The reference's reader, and the rows of units -/
def tailN : Nat → List Nat → Nat → Option Nat
  | 0, _, c => some c
  | n + 1, l, c => match l with
    | [] => none
    | b :: t => if b < 128 ∨ 191 < b then none else tailN n t (64 * c + (b - 128))
/-- how many bytes follow, and what the first one gives -/
def head (b : Nat) : Option (Nat × Nat) :=
  if b < 128 then some (0, b) else if 192 ≤ b ∧ b < 224 then some (1, b - 192) else if 224 ≤ b ∧ b < 240 then some (2, b - 224) else if 240 ≤ b ∧ b < 248 then some (3, b - 240) else none
/-- one code point of the reader: the point, and how many bytes it takes -/
def rd1 (l : List Nat) : Option (Nat × Nat) :=
  match l with
  | [] => none
  | b :: t => match head b with
    | none => none
    | some (n, base) => match tailN n t 0 with
      | none => none
      | some c => if 1114111 < c + base * 64 ^ n then none else some (c + base * 64 ^ n, n)
def rdF : Nat → List Nat → Option (List Nat)
  | 0, l => if l.isEmpty then some [] else none
  | f + 1, l => if l.isEmpty then some [] else match rd1 l with
    | none => none
    | some (c, n) => (rdF f (l.drop (1 + n))).map (U c ++ ·)
theorem rdF_fuel : ∀ (f g : Nat) (l : List Nat), l.length ≤ f → l.length ≤ g → rdF f l = rdF g l := by
  intro f
  induction f with
  | zero =>
    intro g l h1 h2
    have : l = [] := List.eq_nil_of_length_eq_zero (by omega)
    subst this
    cases g <;> simp [rdF]
  | succ f ih =>
    intro g l h1 h2
    cases l with
    | nil => cases g <;> simp [rdF]
    | cons x t =>
      cases g with
      | zero => simp at h2
      | succ g =>
        simp only [rdF]
        split
        · rfl
        · cases rd1 (x :: t) with
          | none => rfl
          | some p =>
            obtain ⟨c, n⟩ := p
            simp only
            rw [ih g]
            all_goals (simp only [List.length_drop, List.length_cons] at *; omega)
def rd (l : List Nat) : Option (List Nat) := rdF l.length l
theorem rd_nil : rd [] = some [] := rfl
theorem rd_step (l : List Nat) (hne : l ≠ []) : rd l = match rd1 l with
    | none => none
    | some (c, n) => (rd (l.drop (1 + n))).map (U c ++ ·) := by
  cases l with
  | nil => exact absurd rfl hne
  | cons x t =>
    unfold rd
    simp only [List.length_cons, rdF, List.isEmpty_cons, Bool.false_eq_true, if_false]
    cases rd1 (x :: t) with
    | none => rfl
    | some p =>
      obtain ⟨c, n⟩ := p
      simp only
      rw [rdF_fuel t.length]
      all_goals (simp only [List.length_drop, List.length_cons]; omega)
theorem rd1_E (c : Nat) (r : List Nat) (hc : c ≤ 1114111) : ∃ n, rd1 (E c ++ r) = some (c, n) ∧ 1 + n = (E c).length := by
  unfold E
  by_cases h1 : c < 128
  · refine ⟨0, ?_, by simp [h1]⟩
    simp [h1, rd1, head, tailN]; omega
  by_cases h2 : c < 2048
  · rw [if_neg h1, if_pos h2]
    refine ⟨1, ?_, by simp⟩
    simp only [rd1, head, List.cons_append, List.nil_append]
    rw [if_neg (by omega), if_pos (by omega)]
    simp only [tailN]
    rw [if_neg (by omega)]
    simp only [Nat.pow_one]
    rw [if_neg (by omega)]
    refine congrArg some (Prod.ext ?_ rfl); dsimp only; omega
  by_cases h3 : c < 65536
  · rw [if_neg h1, if_neg h2, if_pos h3]
    refine ⟨2, ?_, by simp⟩
    simp only [rd1, head, List.cons_append, List.nil_append]
    rw [if_neg (by omega), if_neg (by omega), if_pos (by omega)]
    simp only [tailN]
    rw [if_neg (by omega), if_neg (by omega)]
    simp only [Nat.reducePow]
    rw [if_neg (by omega)]
    refine congrArg some (Prod.ext ?_ rfl); dsimp only; omega
  · rw [if_neg h1, if_neg h2, if_neg h3]
    refine ⟨3, ?_, by simp⟩
    simp only [rd1, head, List.cons_append, List.nil_append]
    rw [if_neg (by omega), if_neg (by omega), if_neg (by omega), if_pos (by omega)]
    simp only [tailN]
    rw [if_neg (by omega), if_neg (by omega), if_neg (by omega)]
    simp only [Nat.reducePow]
    rw [if_neg (by omega)]
    refine congrArg some (Prod.ext ?_ rfl); dsimp only; omega
theorem rd_flat : ∀ (cs : List Nat), small cs → rd (cs.flatMap E) = some (cs.flatMap U) := by
  intro cs
  induction cs with
  | nil => intro _; rfl
  | cons c r ih =>
    intro hs
    obtain ⟨n, h1, h2⟩ := rd1_E c (r.flatMap E) (hs c (by simp))
    have hE := E_len c
    rw [List.flatMap_cons, rd_step, h1]
    · simp only [h2, List.drop_left, ih (fun x hx => hs x (by simp [hx])), List.flatMap_cons, Option.map_some]
    · intro e; have := congrArg List.length e; simp at this; simp [this.1] at hE

theorem U_small (c : Nat) (hc : c ≤ 1114111) : ∀ u ∈ U c, u < 65536 := by
  unfold U; split
  · intro u hu; simp at hu; omega
  · intro u hu; simp at hu; omega
theorem rd1_small (l : List Nat) (c n : Nat) (h : rd1 l = some (c, n)) : c ≤ 1114111 := by
  unfold rd1 at h
  split at h
  · simp at h
  · split at h
    · simp at h
    · split at h
      · simp at h
      · split at h
        · simp at h
        · simp only [Option.some.injEq, Prod.mk.injEq] at h; omega
theorem rd_small : ∀ (n : Nat) (l u : List Nat), l.length ≤ n → rd l = some u → ∀ x ∈ u, x < 65536 := by
  intro n
  induction n with
  | zero =>
    intro l u hl h
    have : l = [] := List.eq_nil_of_length_eq_zero (by omega)
    subst this
    rw [rd_nil] at h; cases h; intro x hx; simp at hx
  | succ n ih =>
    intro l u hl h
    by_cases hne : l = []
    · subst hne; rw [rd_nil] at h; cases h; intro x hx; simp at hx
    · rw [rd_step l hne] at h
      have hl0 : 0 < l.length := List.length_pos_iff.2 hne
      cases h1 : rd1 l with
      | none => rw [h1] at h; simp at h
      | some p =>
        obtain ⟨c, k⟩ := p
        rw [h1] at h
        simp only [Option.map_eq_some_iff] at h
        obtain ⟨v, hv, rfl⟩ := h
        intro x hx
        rw [List.mem_append] at hx
        rcases hx with hx | hx
        · exact U_small c (rd1_small l c k h1) x hx
        · exact ih _ v (by simp; omega) hv x hx

/-- The code points of a row. -/
def row : List Nat → List Nat
  | [] => []
  | [a] => [a]
  | a :: b :: r => if isHi a && isLo b then (65536 + 1024 * (a - 55296) + (b - 56320)) :: row r else a :: row (b :: r)
def ofL (l : List Nat) : List Nat := (row l).flatMap E
theorem isHi_iff (c : Nat) : isHi c = true ↔ 55296 ≤ c ∧ c < 56320 := by simp [isHi]
theorem isLo_iff (c : Nat) : isLo c = true ↔ 56320 ≤ c ∧ c ≤ 57343 := by simp [isLo]
theorem row_cons_of (a : Nat) (t : List Nat) (h : ∀ b r, t = b :: r → (isHi a && isLo b) = false) : row (a :: t) = a :: row t := by
  cases t with
  | nil => rfl
  | cons b r => simp [row, h b r rfl]
theorem flat_U_head (c : Nat) (r : List Nat) (hs : small r) (hp : noPair (isHi c) r = true) : ∀ b t, r.flatMap U = b :: t → (isHi c && isLo b) = false := by
  intro b t e
  cases r with
  | nil => simp at e
  | cons d q =>
    have hd : d ≤ 1114111 := hs d (by simp)
    simp only [noPair, Bool.and_eq_true, Bool.not_eq_true'] at hp
    rw [List.flatMap_cons] at e
    unfold U at e
    split at e
    · simp only [List.cons_append, List.nil_append, List.cons.injEq] at e
      rw [← e.1]; exact hp.1
    · simp only [List.cons_append, List.nil_append, List.cons.injEq] at e
      rw [Bool.and_eq_false_iff]; right
      cases h : isLo b with
      | false => rfl
      | true => rw [isLo_iff] at h; omega
theorem row_flat : ∀ (cs : List Nat) (h : Bool), small cs → noPair h cs = true → row (cs.flatMap U) = cs := by
  intro cs
  induction cs with
  | nil => intro _ _ _; rfl
  | cons c r ih =>
    intro h hs hp
    have hc : c ≤ 1114111 := hs c (by simp)
    have hr : small r := fun x hx => hs x (by simp [hx])
    simp only [noPair, Bool.and_eq_true, Bool.not_eq_true'] at hp
    rw [List.flatMap_cons]
    by_cases h1 : c < 65536
    · have e : U c = [c] := by simp [U, h1]
      rw [e, List.singleton_append, row_cons_of, ih _ hr hp.2]
      exact flat_U_head c r hr hp.2
    · have e : U c = [55296 + (c - 65536) / 1024, 56320 + (c - 65536) % 1024] := by simp [U, h1]
      rw [e]
      have a1 : isHi (55296 + (c - 65536) / 1024) = true := (isHi_iff _).2 (by omega)
      have a2 : isLo (56320 + (c - 65536) % 1024) = true := (isLo_iff _).2 (by omega)
      have a3 : 65536 + 1024 * (55296 + (c - 65536) / 1024 - 55296) + (56320 + (c - 65536) % 1024 - 56320) = c := by omega
      simp only [List.cons_append, List.nil_append, row, a1, a2, Bool.and_self, if_true, a3, ih _ hr hp.2]
theorem row_props : ∀ (n : Nat) (l : List Nat), l.length ≤ n → (∀ x ∈ l, x < 65536) → small (row l) ∧ (row l).flatMap U = l ∧
    (∀ h : Bool, (∀ b t, l = b :: t → (h && isLo b) = false) → noPair h (row l) = true) := by
  intro n
  induction n with
  | zero =>
    intro l hl _
    have : l = [] := List.eq_nil_of_length_eq_zero (by omega)
    subst this
    exact ⟨by intro c hc; simp [row] at hc, rfl, fun _ _ => rfl⟩
  | succ n ih =>
    intro l hl hb
    match l, hl, hb with
    | [], _, _ => exact ⟨by intro c hc; simp [row] at hc, rfl, fun _ _ => rfl⟩
    | [a], _, hb =>
      have ha := hb a (by simp)
      refine ⟨?_, ?_, ?_⟩
      · intro c hc; simp [row] at hc; omega
      · simp [row, U, ha]
      · intro h hh; simp [row, noPair, hh a [] rfl]
    | a :: b :: r, hl, hb =>
      have ha := hb a (by simp)
      have hb' := hb b (by simp)
      by_cases hp : (isHi a && isLo b) = true
      · obtain ⟨i1, i2, i3⟩ := ih r (by simp at hl; omega) (fun x hx => hb x (by simp [hx]))
        have e : row (a :: b :: r) = (65536 + 1024 * (a - 55296) + (b - 56320)) :: row r := by simp [row, hp]
        rw [Bool.and_eq_true, isHi_iff, isLo_iff] at hp
        rw [e]
        refine ⟨?_, ?_, ?_⟩
        · intro c hc; simp only [List.mem_cons] at hc
          rcases hc with hc | hc
          · omega
          · exact i1 c hc
        · rw [List.flatMap_cons, i2]
          have : U (65536 + 1024 * (a - 55296) + (b - 56320)) = [a, b] := by
            unfold U; rw [if_neg (by omega)]
            simp only [List.cons.injEq, and_true]; omega
          rw [this, List.cons_append, List.cons_append, List.nil_append]
        · intro h _
          have l1 : isLo (65536 + 1024 * (a - 55296) + (b - 56320)) = false := by
            cases hq : isLo (65536 + 1024 * (a - 55296) + (b - 56320)) with
            | false => rfl
            | true => rw [isLo_iff] at hq; omega
          have l2 : isHi (65536 + 1024 * (a - 55296) + (b - 56320)) = false := by
            cases hq : isHi (65536 + 1024 * (a - 55296) + (b - 56320)) with
            | false => rfl
            | true => rw [isHi_iff] at hq; omega
          simp only [noPair, l1, l2, Bool.and_false, Bool.not_false, Bool.true_and]
          exact i3 false (by simp)
      · have hp' : (isHi a && isLo b) = false := by simpa using hp
        obtain ⟨i1, i2, i3⟩ := ih (b :: r) (by simp at hl ⊢; omega) (fun x hx => hb x (by simp at hx ⊢; right; exact hx))
        have e : row (a :: b :: r) = a :: row (b :: r) := by simp only [row, hp', Bool.false_eq_true, if_false]
        rw [e]
        refine ⟨?_, ?_, ?_⟩
        · intro c hc; simp only [List.mem_cons] at hc
          rcases hc with rfl | hc
          · omega
          · exact i1 c hc
        · rw [List.flatMap_cons, i2]; simp [U, ha]
        · intro h hh
          simp only [noPair, hh a (b :: r) rfl, Bool.not_false, Bool.true_and]
          exact i3 _ (fun b' t' e' => by simp only [List.cons.injEq] at e'; rw [← e'.1]; exact hp')

/-- The program's scan and the reference's definition agree. -/
theorem valid_ref (l : List Nat) (hb : ∀ x ∈ l, x < 256) :
    (valid false l = true ∧ ∃ u, rd l = some u ∧ ofL u = l ∧ ∃ cs, Wtf l cs ∧ u = cs.flatMap U) ∨ (valid false l = false ∧ ∀ u, rd l = some u → ofL u ≠ l) := by
  cases hv : valid false l with
  | true =>
    left
    obtain ⟨cs, e, s, p⟩ := (valid_iff l hb).1 hv
    refine ⟨rfl, cs.flatMap U, by rw [e]; exact rd_flat cs s, ?_, cs, ⟨e, s, p⟩, rfl⟩
    unfold ofL
    rw [row_flat cs false s p, ← e]
  | false =>
    right
    refine ⟨rfl, fun u hu he => ?_⟩
    have hs := rd_small l.length l u (Nat.le_refl _) hu
    obtain ⟨r1, r2, r3⟩ := row_props u.length u (Nat.le_refl _) hs
    have : valid false l = true := (valid_iff l hb).2 ⟨row u, he.symm, r1, r3 false (by simp)⟩
    rw [hv] at this; cases this

end M
end Go.Proofs.YtmemceindohklaaDoor

/-! Wa -/
namespace Go.Proofs.YtmemceindohklaaDoor
open Go.RowKit Go.Shelf

def hiZ (c : Int) : Bool := decide (55296 ≤ c) && decide (c < 56320)
def loZ (c : Int) : Bool := decide (56320 ≤ c) && decide (c ≤ 57343)
def suZ (c : Int) : Bool := decide (55296 ≤ c) && decide (c ≤ 57343)
theorem hiZ_nat (c : Nat) : hiZ c = M.isHi c := by
  unfold hiZ M.isHi
  rw [show decide ((55296 : Int) ≤ (c : Int)) = decide (55296 ≤ c) from decide_eq_decide.2 (by omega), show decide ((c : Int) < 56320) = decide (c < 56320) from decide_eq_decide.2 (by omega)]
theorem loZ_nat (c : Nat) : loZ c = M.isLo c := by
  unfold loZ M.isLo
  rw [show decide ((56320 : Int) ≤ (c : Int)) = decide (56320 ≤ c) from decide_eq_decide.2 (by omega), show decide ((c : Int) ≤ 57343) = decide (c ≤ 57343) from decide_eq_decide.2 (by omega)]

theorem isHigh_any (c : Int) (w : World) : Calls Tryd.prog 82 #[.int .i32 c] w fun e w' => e = .returned (.bool (hiZ c)) ∧ w' = w := by
  unfold hiZ
  by_cases h1 : 55296 ≤ c <;> by_cases h2 : c < 56320
  all_goals
    go_enter Tryd.func82, Tryd.ntmps82
    go_wp2
    go_ret
    simp [h1, h2]
theorem isLow_any (c : Int) (w : World) : Calls Tryd.prog 81 #[.int .i32 c] w fun e w' => e = .returned (.bool (loZ c)) ∧ w' = w := by
  unfold loZ
  by_cases h1 : 56320 ≤ c <;> by_cases h2 : c ≤ 57343
  all_goals
    go_enter Tryd.func81, Tryd.ntmps81
    go_wp2
    go_ret
    simp [h1, h2]
theorem ret_int {k : IntKind} {a b : Int} (h : a = b) : Ending.returned (.int k a) = .returned (.int k b) := by rw [h]
def nums (s : ByteArray) : List Nat := s.data.toList.map UInt8.toNat
theorem nums_len (s : ByteArray) : (nums s).length = s.size := by unfold nums; rw [List.length_map]; rfl
theorem nums_lt (s : ByteArray) : ∀ x ∈ nums s, x < 256 := by
  intro x hx; unfold nums at hx; rw [List.mem_map] at hx; obtain ⟨y, _, rfl⟩ := hx; exact y.toNat_lt
theorem nums_get (s : ByteArray) (k : Nat) (h : k < s.size) : (nums s).getD k 0 = (s[k]'h).toNat := by
  have h' : k < s.data.toList.length := h
  unfold nums
  rw [List.getD_eq_getElem?_getD, List.getElem?_map, List.getElem?_eq_getElem h']
  rfl

theorem u8_224 : ∀ n : Fin 256, bits .and .u8 (n.val : Int) 224 = (n.val : Int) / 32 * 32 := by decide +kernel
theorem u8_192 : ∀ n : Fin 256, bits .and .u8 (n.val : Int) 192 = (n.val : Int) / 64 * 64 := by decide +kernel

theorem surr_any (s : ByteArray) (w : World) : Calls Tryd.prog 89 #[.string s] w fun e w' => e = .returned (.tuple #[.int .i32 ((M.surr (nums s)).1 : Nat), .int .i64 ((M.surr (nums s)).2 : Nat)]) ∧ ∃ n, w' = w.drewN n := by
  by_cases h : s.size < 3
  · have e : M.surr (nums s) = (0, 0) := by unfold M.surr; rw [nums_len, if_pos (Or.inl h)]
    rw [e]
    have h' : (s.size : Int) < 3 := by omega
    go_enter Tryd.func89, Tryd.ntmps89
    go_wp2
    go_ret2
    exact ⟨rfl, 0, rfl⟩
  · have hz0 : (0 : Int) < (s.size : Int) := by omega
    have hz1 : (1 : Int) < (s.size : Int) := by omega
    have hz2 : (2 : Int) < (s.size : Int) := by omega
    have h' : ¬ ((s.size : Int) < 3) := by omega
    obtain ⟨x0, hx0⟩ : ∃ x0, s[0]'(by omega) = x0 := ⟨_, rfl⟩
    obtain ⟨x1, hx1⟩ : ∃ x1, s[1]'(by omega) = x1 := ⟨_, rfl⟩
    obtain ⟨x2, hx2⟩ : ∃ x2, s[2]'(by omega) = x2 := ⟨_, rfl⟩
    have g0 : (nums s).getD 0 0 = x0.toNat := by rw [nums_get s 0 (by omega), hx0]
    have g1 : (nums s).getD 1 0 = x1.toNat := by rw [nums_get s 1 (by omega), hx1]
    have g2 : (nums s).getD 2 0 = x2.toNat := by rw [nums_get s 2 (by omega), hx2]
    have hS : M.surr (nums s) = if x0.toNat ≠ 237 ∨ x1.toNat / 32 ≠ 5 ∨ x2.toNat / 64 ≠ 2 then (0, 0) else (55296 + x1.toNat % 32 * 64 + x2.toNat % 64, 3) := by
      unfold M.surr; rw [nums_len, g0, g1, g2]; simp [h]
    clear g0 g1 g2
    rw [hS]; clear hS
    have l0 := x0.toNat_lt; have l1 := x1.toNat_lt; have l2 := x2.toNat_lt
    obtain ⟨n0, hn0⟩ : ∃ n0, x0.toNat = n0 := ⟨_, rfl⟩
    obtain ⟨n1, hn1⟩ : ∃ n1, x1.toNat = n1 := ⟨_, rfl⟩
    obtain ⟨n2, hn2⟩ : ∃ n2, x2.toNat = n2 := ⟨_, rfl⟩
    rw [hn0] at l0; rw [hn1] at l1; rw [hn2] at l2
    rw [hn0, hn1, hn2]
    have q1 : bits .and .u8 (n1 : Int) 224 = (n1 : Int) / 32 * 32 := u8_224 ⟨n1, l1⟩
    have q2 : bits .and .u8 (n2 : Int) 192 = (n2 : Int) / 64 * 64 := u8_192 ⟨n2, l2⟩
    have q3 : bits .and .u8 (n1 : Int) 31 = (n1 : Int) % 32 := u8_and31 _ (by omega) (by omega)
    have q4 : bits .and .u8 (n2 : Int) 63 = (n2 : Int) % 64 := u8_and63 _ (by omega) (by omega)
    by_cases c0 : n0 = 237
    case neg =>
      rw [if_pos (Or.inl c0)]
      have c0' : ((n0 : Int) != 237) = true := by rw [bne_iff_ne]; omega
      go_enter Tryd.func89, Tryd.ntmps89
      go_wp2
      go_ret2
      exact ⟨rfl, 0, rfl⟩
    by_cases c1 : n1 / 32 = 5
    case neg =>
      rw [if_pos (Or.inr (Or.inl c1))]
      have c1' : ((n1 : Int) / 32 * 32 != 160) = true := by rw [bne_iff_ne]; omega
      have c0' : ((n0 : Int) != 237) = false := by rw [bne_eq_false_iff_eq]; omega
      go_enter Tryd.func89, Tryd.ntmps89
      go_wp2
      go_ret2
      exact ⟨rfl, 0, rfl⟩
    have c0' : ((n0 : Int) != 237) = false := by rw [bne_eq_false_iff_eq]; omega
    have c1' : ((n1 : Int) / 32 * 32 != 160) = false := by rw [bne_eq_false_iff_eq]; omega
    by_cases c2 : n2 / 64 = 2
    case neg =>
      rw [if_pos (Or.inr (Or.inr c2))]
      have c2' : ((n2 : Int) / 64 * 64 != 128) = true := by rw [bne_iff_ne]; omega
      go_enter Tryd.func89, Tryd.ntmps89
      go_wp2
      go_ret2
      exact ⟨rfl, 0, rfl⟩
    rw [if_neg (by omega)]
    have c2' : ((n2 : Int) / 64 * 64 != 128) = false := by rw [bne_eq_false_iff_eq]; omega
    have b1 : 0 ≤ (n1 : Int) % 32 := by omega
    have b2 : (n1 : Int) % 32 < 32 := by omega
    have b3 : 0 ≤ (n2 : Int) % 64 := by omega
    have b4 : (n2 : Int) % 64 < 64 := by omega
    clear c0 c1 c2
    go_enter Tryd.func89, Tryd.ntmps89
    go_wp2
    go_quiet (fail)
    go_wp2
    go_ret2
    exact ⟨rfl, nq, rfl⟩

end Go.Proofs.YtmemceindohklaaDoor

/-! Wb -/
namespace Go.Proofs.YtmemceindohklaaDoor
open Go.RowKit Go.Shelf
theorem get_nums (s : ByteArray) (k : Nat) : (s.get! k).toNat = (nums s).getD k 0 := by
  by_cases h : k < s.size
  · rw [nums_get s k h]
    have : s.get! k = s[k]'h := by
      cases s with
      | mk d => exact getElem!_pos d k h
    rw [this]
  · have e1 : s.get! k = 0 := by
      cases s with
      | mk d => exact getElem!_neg d k h
    rw [e1, List.getD_eq_getElem?_getD, List.getElem?_eq_none (by rw [nums_len]; omega)]
    rfl
theorem valid_nat (c : Nat) : Utf8.valid (c : Int) = M.okc c := by
  unfold Utf8.valid M.okc
  rw [Bool.eq_iff_iff]
  simp
  omega
set_option maxHeartbeats 1000000 in
theorem decodeGo_nums (s : ByteArray) : Lib.decodeGo s = M.goD (nums s) := by
  unfold Lib.decodeGo M.goD Utf8.decode
  simp only [nums_len, get_nums, Nat.zero_add, Bool.and_eq_true, beq_iff_eq, decide_eq_true_eq, valid_nat, ge_iff_le, Utf8.runeError, and_assoc]

theorem below_drewN' (B : Nat) (w : World) (n : Nat) : Below B w (w.drewN n) := by
  exact below_drewN (Below.refl _ _) n
theorem hide {p : Prop} (h : p) : Hid p := h
theorem unhide {p : Prop} (h : Hid p) : p := h
theorem goD_le (l : List Nat) (hb : ∀ x ∈ l, x < 256) : (M.goD l).1 ≤ 1114111 ∧ (M.goD l).2 ≤ 4 := by
  rcases M.goD_cases l hb with h | ⟨b0, t, hl, h1, hv⟩ | ⟨b0, b1, t, hl, h1, h2, h3, hv⟩ | ⟨b0, b1, b2, t, hl, h1, h2, h3, h4, hv⟩ | ⟨b0, b1, b2, b3, t, hl, h1, h2, h3, h4, h5, h6, hv⟩
  · omega
  all_goals (rw [hv]; dsimp only; omega)
set_option maxHeartbeats 400000 in
theorem decode_any (s : ByteArray) (w : World) (hT : Lib.Utf8Tabs 4 5 w) : Calls Tryd.prog 80 #[.string s] w fun e w' => e = .returned (.tuple #[.int .i32 ((M.dec (nums s)).1 : Nat), .int .i64 ((M.dec (nums s)).2 : Nat)]) ∧ Below w.heap.size w w' := by
  have hD := Tryd.utf8_DecodeRuneInString s w hT
  have hle := goD_le (nums s) (nums_lt s)
  have hS := fun w => surr_any s w
  unfold M.dec
  rw [decodeGo_nums] at hD
  generalize M.goD (nums s) = p at *
  generalize M.surr (nums s) = q at *
  obtain ⟨c, n⟩ := p
  obtain ⟨c', n'⟩ := q
  dsimp only at *
  by_cases h1 : c = 65533
  · by_cases h2 : n ≤ 1
    · rw [if_pos ⟨h1, h2⟩]
      have h1' : ((c : Int) == 65533) = true := by rw [beq_iff_eq]; omega
      have h2' : (n : Int) ≤ 1 := by omega
      clear h1 h2
      have HS := hide hS; clear hS
      have HD := hide hD; clear hD
      go_enter Tryd.func80, Tryd.ntmps80
      go_wp2_with fail
      refine (unhide HD).mono ?_
      rintro e w1 ⟨rfl, hb⟩
      go_wp2_with fail
      refine (unhide HS _).mono ?_
      rintro e w2 ⟨rfl, m, rfl⟩
      go_wp2
      go_ret2
      exact ⟨rfl, hb.trans (below_drewN' _ _ _)⟩
    · rw [if_neg (by omega)]
      have h1' : ((c : Int) == 65533) = true := by rw [beq_iff_eq]; omega
      have h2' : ¬ (n : Int) ≤ 1 := by omega
      clear h1 h2 hS
      have HD := hide hD; clear hD
      go_enter Tryd.func80, Tryd.ntmps80
      go_wp2_with fail
      refine (unhide HD).mono ?_
      rintro e w1 ⟨rfl, hb⟩
      go_wp2
      go_ret2
      exact ⟨rfl, hb⟩
  · rw [if_neg (by omega)]
    have h1' : ((c : Int) == 65533) = false := by rw [beq_eq_false_iff_ne]; omega
    clear h1 hS
    have HD := hide hD; clear hD
    go_enter Tryd.func80, Tryd.ntmps80
    go_wp2_with fail
    refine (unhide HD).mono ?_
    rintro e w1 ⟨rfl, hb⟩
    go_wp2
    go_ret2
    exact ⟨rfl, hb⟩
end Go.Proofs.YtmemceindohklaaDoor

/-! Ka -/
namespace Go.Proofs.YtmemceindohklaaDoor
open Go Go.Proofs Go.RowKit Go.Sort
set_option linter.unusedSimpArgs false
set_option linter.unusedVariables false
def encU (n : Nat) : Value := .int .u32 (n : Int)
/-- A row of numbers at the head of block blk. -/
def LiesU (w : World) (blk : Nat) (d : Array Nat) : Prop := ∃ r : Array Value, w.heap[blk]? = some (.cells (d.map encU ++ r) 89 (0, 0))
theorem LiesU.lt {w : World} {blk : Nat} {d : Array Nat} (h : LiesU w blk d) : blk < w.heap.size := by
  obtain ⟨r, h⟩ := h
  exact (Array.getElem?_eq_some_iff.1 h).1
theorem LiesU.cell {w : World} {blk : Nat} {d : Array Nat} (h : LiesU w blk d) (j : Nat) (hj : j < d.size) : w.cell? ⟨blk, j, none⟩ = some (.int .u32 (d[j]! : Nat)) ∧ w.frozen? ⟨blk, j, none⟩ = false := by
  obtain ⟨r, h⟩ := h
  refine ⟨?_, ?_⟩
  · simp [go_sem, World.cell?, h, hj, Array.getElem?_append_left, encU]
  · simp [go_sem, World.frozen?, h]
theorem swp_size (d : Array Nat) (i j : Nat) : (swp d i j).size = d.size := by simp [swp]
theorem set_row (d : Array Nat) (r : Array Value) (i x : Nat) (hi : i < d.size) : (d.map encU ++ r).setIfInBounds i (encU x) = (d.setIfInBounds i x).map encU ++ r := by
  apply Array.toList_inj.1
  simp only [Array.toList_setIfInBounds, Array.toList_append, Array.toList_map]
  rw [List.set_append_left _ _ (by simpa using hi), List.map_set]
theorem LiesU.set {w : World} {blk : Nat} {d : Array Nat} (h : LiesU w blk d) (i x : Nat) (hi : i < d.size) : LiesU (w.setCell ⟨blk, i, none⟩ (.int .u32 (x : Nat))) blk (d.setIfInBounds i x) := by
  obtain ⟨r, h⟩ := h
  refine ⟨r, ?_⟩
  rw [← set_row d r i x hi]
  simp [World.setCell, Array.getElem?_modify, h]
  rfl
theorem LiesU.swap {w : World} {blk : Nat} {d : Array Nat} (h : LiesU w blk d) (i j : Nat) (hi : i < d.size) (hj : j < d.size) :
    LiesU ((w.setCell ⟨blk, i, none⟩ (.int .u32 (d[j]! : Nat))).setCell ⟨blk, j, none⟩ (.int .u32 (d[i]! : Nat))) blk (swp d i j) := by
  unfold swp
  exact (h.set i _ hi).set j _ (by simpa using hj)
theorem gb_refl (w : World) (o : Option Nat) : w.grownBy w o := ⟨rfl, rfl, rfl, Nat.le_refl _, fun _ _ _ => rfl⟩
theorem gb_trans {w w1 w2 : World} {o : Option Nat} (h : w.grownBy w1 o) (k : w1.grownBy w2 o) : w.grownBy w2 o :=
  ⟨k.os.trans h.os, k.tape.trans h.tape, k.output.trans h.output, Nat.le_trans h.size k.size, fun b hb ho => (k.block b (Nat.lt_of_lt_of_le hb h.size) ho).trans (h.block b hb ho)⟩
theorem gb_set (w : World) (blk o : Nat) (v : Value) : w.grownBy (w.setCell ⟨blk, o, none⟩ v) (some blk) := by
  refine ⟨rfl, rfl, rfl, by simp [World.setCell], ?_⟩
  intro k _ hne
  have : blk ≠ k := fun e => hne (by rw [e])
  simp [World.setCell, Array.getElem?_modify, this]
theorem gb_swap (w : World) (blk i j : Nat) (v u : Value) : w.grownBy ((w.setCell ⟨blk, i, none⟩ v).setCell ⟨blk, j, none⟩ u) (some blk) := gb_trans (gb_set _ _ _ _) (gb_set _ _ _ _)
def ltN (x y : Nat) : Bool := decide (x < y)
theorem nan36 (x : Nat) (w : World) : Calls Tryd.prog 75 #[.int .u32 (x : Nat)] w fun e w' => e = .returned (.bool false) ∧ w' = w := by
  go_enter Tryd.func75, Tryd.ntmps75
  go_wp2
  go_ret
  exact ⟨rfl, rfl⟩
theorem less67 (x y : Nat) (w : World) : Calls Tryd.prog 63 #[.int .u32 (x : Nat), .int .u32 (y : Nat)] w fun e w' => e = .returned (.bool (ltN x y)) ∧ w' = w := by
  have hr : ((x : Int) < y) = (x < y) := by simp
  unfold ltN
  go_enter Tryd.func63, Tryd.ntmps63
  go_wp2_with fail
  refine (nan36 x _).mono ?_
  rintro e w' ⟨rfl, rfl⟩
  go_wp2
  go_ret
  refine ⟨?_, rfl⟩
  simp
theorem LiesU.grown {w w' : World} {blk : Nat} {d : Array Nat} (h : LiesU w blk d) (hb : w'.heap[blk]? = w.heap[blk]?) : LiesU w' blk d := by
  obtain ⟨r, h⟩ := h
  exact ⟨r, hb.trans h⟩
theorem LiesU.drew {w : World} {blk : Nat} {d : Array Nat} (h : LiesU w blk d) (n : Nat) : LiesU (w.drewN n) blk d := h.grown rfl
theorem gb_drew {w w' : World} {o : Option Nat} (h : w.grownBy w' o) (n : Nat) : w.grownBy (w'.drewN n) o := ⟨h.os, h.tape, h.output, h.size, h.block⟩
theorem insI_go (a j : Nat) (d : Array Nat) (hj : a < j) (hl : ltN d[j]! d[j - 1]! = true) : insInner ltN a j d = insInner ltN a (j - 1) (swp d j (j - 1)) := by
  cases j with
  | zero => omega
  | succ j =>
    simp only [Nat.add_sub_cancel] at hl ⊢
    rw [insInner, if_pos]
    simp [hl, hj]
theorem insI_stop (a j : Nat) (d : Array Nat) (h : j ≤ a ∨ ltN d[j]! d[j - 1]! = false) : insInner ltN a j d = d := by
  cases j with
  | zero => rfl
  | succ j =>
    rw [insInner, if_neg]
    simp only [Nat.add_sub_cancel] at h
    rcases h with h | h
    · simp; omega
    · simp [h]
theorem insO_go (a b i : Nat) (d : Array Nat) (h : i < b) : insOuter ltN a b i d = insOuter ltN a b (i + 1) (insInner ltN a i d) := by rw [insOuter, if_pos h]
theorem insO_stop (a b i : Nat) (d : Array Nat) (h : ¬ i < b) : insOuter ltN a b i d = d := by rw [insOuter, if_neg h]
set_option maxHeartbeats 2000000 in
set_option maxRecDepth 100000 in
theorem insertion61 (blk cap a b : Nat) (d : Array Nat) (w : World) (hL : LiesU w blk d) (hab : a ≤ b) (hb : b ≤ d.size) (hsz : d.size ≤ 3000) :
    Calls Tryd.prog 57 #[.slice (some ⟨blk, 0, none⟩) d.size cap, .int .i64 a, .int .i64 b] w fun e w' => e = .returned (.tuple #[]) ∧ LiesU w' blk (insertionSort ltN d a b) ∧ w.grownBy w' (some blk) := by
  have HL := hide hL
  clear hL
  go_enter Tryd.func57, Tryd.ntmps57
  go_wp2_with fail
  go_loopg [6] (b + 1) (fun g s6 wr => ∃ (i : Nat) (dk : Array Nat), s6 = .int .i64 i ∧ a < i ∧ i ≤ b + 1 ∧ b + 1 - i ≤ g ∧ Hid (dk.size = d.size) ∧ Hid (LiesU wr blk dk) ∧ Hid (w.grownBy wr (some blk)) ∧ Hid (insOuter ltN a b i dk = insertionSort ltN d a b))
  case atStart => exact ⟨a + 1, d, by go_num, by omega, by omega, by omega, hide rfl, HL, hide (gb_refl _ _), hide rfl⟩
  case round =>
    obtain ⟨i, dk, rfl, hai, hib, hg, hsk, hLk, hGk, hOk⟩ := hrel
    by_cases hlt : i < b
    · have hiz : (i : Int) < b := by omega
      go_wp2_with fail
      go_loopg [7] i (fun g s7 wr => ∃ (j : Nat) (dj : Array Nat), s7 = .int .i64 j ∧ a ≤ j ∧ j ≤ i ∧ j ≤ g ∧ Hid (dj.size = d.size) ∧ Hid (LiesU wr blk dj) ∧ Hid (w.grownBy wr (some blk)) ∧ Hid (insInner ltN a j dj = insInner ltN a i dk))
      case atStart => exact ⟨i, dk, rfl, by omega, Nat.le_refl _, Nat.le_refl _, hsk, hLk, hGk, hide rfl⟩
      case round =>
        obtain ⟨j, dj, rfl, haj, hji, hg2, hsj, hLj, hGj, hIj⟩ := hrel
        have hds := unhide hsj
        by_cases hja : a < j
        · obtain ⟨c1, f1⟩ := (unhide hLj).cell j (by omega)
          obtain ⟨c2, f2⟩ := (unhide hLj).cell (j - 1) (by omega)
          have HGo := hide (insI_go a j dj hja)
          have HSt := hide (fun h => insI_stop a j dj (.inr h))
          have HSw := hide (fun n => ((unhide hLj).drew n).swap j (j - 1) (by omega) (by omega))
          have z1 : (a : Int) < j := by omega
          have z2 : (j : Int) < d.size := by omega
          have z3 : (j : Int) - 1 < d.size := by omega
          have z4 : (0 : Int) ≤ (j : Int) - 1 := by omega
          have z5 : ((j : Int) - 1).toNat = j - 1 := by omega
          have z6 : IntKind.i64.wrap ((j : Int) - 1) = (j : Int) - 1 := by rw [IntKind.wrap_i64]; omega
          have z7 : (0 : Int) ≤ j := by omega
          clear hds
          generalize dj[j]! = x at *
          generalize dj[j - 1]! = y at *
          have HC := hide (less67 x y)
          generalize ltN x y = r at *
          cases r
          · have HE := hide (unhide HSt rfl)
            clear HSt HGo HSw
            go_wp2_with fail
            go_quiet ((go_at_call 63; refine Calls.quiet_of_same (unhide HC _)))
            go_wp2
            go_roundg (b + 1 - (i + 1))
            case measure => omega
            case rel =>
              refine ⟨i + 1, dj, by go_num, by omega, by omega, Nat.le_refl _, hsj, hide ((unhide hLj).drew _), hide (gb_drew (unhide hGj) _), hide ?_⟩
              rw [← unhide hOk, insO_go _ _ _ _ hlt, ← unhide hIj, unhide HE]
          · have HE := hide (unhide HGo rfl)
            clear HSt HGo
            go_wp2_with fail
            go_quiet ((go_at_call 63; refine Calls.quiet_of_same (unhide HC _)))
            go_wp2_with fail
            go_region
            all_goals go_wp2
            go_roundg (j - 1)
            case measure => omega
            case rel => exact ⟨j - 1, swp dj j (j - 1), by go_num, by omega, by omega, Nat.le_refl _, hide (by rw [swp_size]; exact unhide hsj), hide (unhide HSw _), hide (gb_trans (gb_drew (unhide hGj) _) (gb_swap _ _ _ _ _ _)), hide (by rw [← unhide HE]; exact unhide hIj)⟩
        · have z1 : ¬ (a : Int) < j := by omega
          have HE := hide (insI_stop a j dj (.inl (by omega)))
          go_wp2_with fail
          go_quiet (fail)
          go_wp2
          go_roundg (b + 1 - (i + 1))
          case measure => omega
          case rel =>
            refine ⟨i + 1, dj, by go_num, by omega, by omega, Nat.le_refl _, hsj, hide ((unhide hLj).drew _), hide (gb_drew (unhide hGj) _), hide ?_⟩
            rw [← unhide hOk, insO_go _ _ _ _ hlt, ← unhide hIj, unhide HE]
    · have hiz : ¬ (i : Int) < b := by omega
      go_wp2
      go_end0
      refine ⟨rfl, ?_, unhide hGk⟩
      rw [← unhide hOk, insO_stop _ _ _ _ hlt]
      exact unhide hLk
end Go.Proofs.YtmemceindohklaaDoor

/-! Kc -/
namespace Go.Proofs.YtmemceindohklaaDoor
open Go Go.Proofs Go.RowKit Go.Sort
set_option linter.unusedSimpArgs false
set_option linter.unusedVariables false
theorem rv_go (i j : Nat) (d : Array Nat) (h : i < j) : reverseLoop i j d = reverseLoop (i + 1) (j - 1) (swp d i j) := by rw [reverseLoop, if_pos h]
theorem rv_stop (i j : Nat) (d : Array Nat) (h : ¬ i < j) : reverseLoop i j d = d := by rw [reverseLoop, if_neg h]
set_option maxHeartbeats 2000000 in
set_option maxRecDepth 100000 in
theorem reverse65 (blk cap a b : Nat) (d : Array Nat) (w : World) (hL : LiesU w blk d) (hab : a < b) (hb : b ≤ d.size) (hsz : d.size ≤ 3000) :
    Calls Tryd.prog 61 #[.slice (some ⟨blk, 0, none⟩) d.size cap, .int .i64 a, .int .i64 b] w fun e w' => e = .returned (.tuple #[]) ∧ LiesU w' blk (reverseRange d a b) ∧ w.grownBy w' (some blk) := by
  have HL := hide hL
  clear hL
  have zb : IntKind.i64.wrap ((b : Int) - 1) = ((b - 1 : Nat) : Int) := by rw [IntKind.wrap_i64]; omega
  go_enter Tryd.func61, Tryd.ntmps61
  go_wp2_with fail
  go_loopg [6, 7] (b + 1) (fun g s6 s7 wr => ∃ (i j : Nat) (dk : Array Nat), s6 = .int .i64 i ∧ s7 = .int .i64 j ∧ a ≤ i ∧ i ≤ b ∧ j < b ∧ b + 1 - i ≤ g ∧ Hid (dk.size = d.size) ∧ Hid (LiesU wr blk dk) ∧ Hid (w.grownBy wr (some blk)) ∧ Hid (reverseLoop i j dk = reverseRange d a b))
  case atStart => exact ⟨a, b - 1, d, rfl, rfl, Nat.le_refl _, by omega, by omega, by omega, hide rfl, HL, hide (gb_refl _ _), hide rfl⟩
  case round =>
    obtain ⟨i, j, dk, rfl, rfl, hai, hib, hjb, hg, hsk, hLk, hGk, hOk⟩ := hrel
    have hds := unhide hsk
    by_cases hlt : i < j
    · have hiz : (i : Int) < j := by omega
      obtain ⟨c1, f1⟩ := (unhide hLk).cell i (by omega)
      obtain ⟨c2, f2⟩ := (unhide hLk).cell j (by omega)
      have HGo := hide (rv_go i j dk hlt)
      have HSw := hide (fun n => ((unhide hLk).drew n).swap i j (by omega) (by omega))
      have z2 : (j : Int) < d.size := by omega
      have z3 : (i : Int) < d.size := by omega
      have z4 : IntKind.i64.wrap ((j : Int) - 1) = ((j - 1 : Nat) : Int) := by rw [IntKind.wrap_i64]; omega
      have z5 : IntKind.i64.wrap ((i : Int) + 1) = ((i + 1 : Nat) : Int) := by rw [IntKind.wrap_i64]; omega
      have n1 : ¬ i = j := by omega
      have n2 : ¬ j = i := by omega
      clear hds
      generalize dk[i]! = x at *
      generalize dk[j]! = y at *
      go_wp2_with fail
      go_region
      all_goals go_wp2
      go_roundg (b + 1 - (i + 1))
      case measure => omega
      case rel => exact ⟨i + 1, j - 1, swp dk i j, by go_num, by go_num, by omega, by omega, by omega, Nat.le_refl _, hide (by rw [swp_size]; exact unhide hsk), hide (unhide HSw _), hide (gb_trans (gb_drew (unhide hGk) _) (gb_swap _ _ _ _ _ _)), hide (by rw [← unhide HGo]; exact unhide hOk)⟩
    · have hiz : ¬ (i : Int) < j := by omega
      go_wp2
      go_end0
      refine ⟨rfl, ?_, unhide hGk⟩
      rw [← unhide hOk, rv_stop _ _ _ hlt]
      exact unhide hLk
/-- A number that a pointer points at. -/
def Pt (w : World) (B : Nat) (n : Nat) : Prop := w.heap[B]? = some (.cells #[.int .i64 (n : Int)] 3 (0, 0))
theorem Pt.cell {w : World} {B n : Nat} (h : Pt w B n) : w.cell? ⟨B, 0, none⟩ = some (.int .i64 (n : Int)) ∧ w.frozen? ⟨B, 0, none⟩ = false ∧ B < w.heap.size := by
  unfold Pt at h
  exact ⟨by simp [go_sem, World.cell?, h], by simp [go_sem, World.frozen?, h], (Array.getElem?_eq_some_iff.1 h).1⟩
theorem Pt.set {w : World} {B n : Nat} (h : Pt w B n) (m : Nat) : Pt (w.setCell ⟨B, 0, none⟩ (.int .i64 (m : Int))) B m := by
  unfold Pt at *
  simp [World.setCell, Array.getElem?_modify, h]
set_option maxHeartbeats 2000000 in
set_option maxRecDepth 100000 in
theorem order88 (blk cap a b B s : Nat) (d : Array Nat) (w : World) (hL : LiesU w blk d) (hP : Pt w B s) (hs : s ≤ 100) (ha : a < d.size) (hb : b < d.size) (hsz : d.size ≤ 3000) :
    Calls Tryd.prog 83 #[.slice (some ⟨blk, 0, none⟩) d.size cap, .int .i64 a, .int .i64 b, .pointer (some ⟨B, 0, none⟩)] w fun e w' => ∃ x y s' : Nat, e = .returned (.tuple #[.int .i64 x, .int .i64 y]) ∧ (x = a ∧ y = b ∨ x = b ∧ y = a) ∧ s' ≤ s + 1 ∧ Pt w' B s' ∧ w.grownBy w' (some B) := by
  obtain ⟨c1, f1⟩ := hL.cell a ha
  obtain ⟨c2, f2⟩ := hL.cell b hb
  obtain ⟨p1, p2, p3⟩ := hP.cell
  have HP := hide hP
  have z1 : (a : Int) < d.size := by omega
  have z2 : (b : Int) < d.size := by omega
  have z3 : IntKind.i64.wrap ((s : Int) + 1) = ((s + 1 : Nat) : Int) := by rw [IntKind.wrap_i64]; omega
  clear hL hP
  generalize d[a]! = x at *
  generalize d[b]! = y at *
  have HC := hide (less67 y x)
  generalize ltN y x = r at *
  cases r
  · go_enter Tryd.func83, Tryd.ntmps83
    go_wp2_with fail
    go_quiet ((go_at_call 63; refine Calls.quiet_of_same (unhide HC _)))
    go_wp2
    go_ret2
    exact ⟨a, b, s, rfl, .inl ⟨rfl, rfl⟩, by omega, unhide HP, gb_drew (gb_refl _ _) _⟩
  · go_enter Tryd.func83, Tryd.ntmps83
    go_wp2_with fail
    go_quiet ((go_at_call 63; refine Calls.quiet_of_same (unhide HC _)))
    go_wp2
    go_ret2
    exact ⟨b, a, s + 1, rfl, .inr ⟨rfl, rfl⟩, by omega, Pt.set (w := w.drewN _) (unhide HP) (s + 1), gb_trans (gb_drew (gb_refl _ _) _) (gb_set _ _ _ _)⟩
end Go.Proofs.YtmemceindohklaaDoor

/-! Wc -/
namespace Go.Proofs.YtmemceindohklaaDoor
open Go.RowKit Go.Shelf

def strLen : Value → Nat
  | .string s => s.size
  | _ => 0
theorem tabs_below {w w' : World} (h : Lib.Utf8Tabs 4 5 w) (hb : Below w.heap.size w w') : Lib.Utf8Tabs 4 5 w' := Utf8Tabs_below h hb

theorem nums_extract (u : ByteArray) (n : Nat) : nums (u.extract n u.size) = (nums u).drop n := by
  unfold nums
  rw [ByteArray.data_extract, Array.toList_extract, ← List.map_drop]
  congr 1
  rw [List.extract_eq_take_drop, List.take_of_length_le]
  rw [List.length_drop]; exact Nat.le_refl _
theorem size_extract (u : ByteArray) (n : Nat) : (u.extract n u.size).size = u.size - n := by
  rw [← nums_len, nums_extract, List.length_drop, nums_len]
set_option maxHeartbeats 400000 in
theorem valid_any (s : ByteArray) (w : World) (hT : Lib.Utf8Tabs 4 5 w) : Calls Tryd.prog 69 #[.string s] w fun e w' => e = .returned (.bool (M.valid false (nums s))) ∧ Below w.heap.size w w' := by
  have HT := hide hT; clear hT
  go_enter Tryd.func69, Tryd.ntmps69
  go_wp2
  go_loopw [0, 3] (fun t b wr => ∃ (u : ByteArray) (h : Bool), t = .string u ∧ b = .bool h ∧ M.valid false (nums s) = M.valid h (nums u) ∧ Below w.heap.size w wr) (fun t _ _ => strLen t)
  case atStart => exact ⟨s, false, rfl, rfl, rfl, Below.refl _ _⟩
  case round =>
    obtain ⟨u, h, rfl, rfl, hv, hB⟩ := hrel
    have HV := hide hv; clear hv
    have hNE : nums u = [] ↔ u.size = 0 := by rw [← nums_len, List.length_eq_zero_iff]
    cases hE : u.toList.isEmpty with
    | true =>
      have hz : nums u = [] := by
        rw [hNE, ByteArray.size, ← Array.length_toList, List.length_eq_zero_iff]
        simpa [Lib.toList_data] using hE
      go_wp2
      go_ret
      refine ⟨?_, hB⟩
      rw [unhide HV, hz]; rfl
    | false =>
      have hz : nums u ≠ [] := by
        intro e
        rw [hNE, ByteArray.size, ← Array.length_toList, List.length_eq_zero_iff] at e
        simp [Lib.toList_data, e] at hE
      have hst := M.valid_step h (nums u) hz
      have hinv := M.dec_inv (nums u) (nums_lt u)
      have hdc := decode_any u wr (tabs_below (unhide HT) hB)
      generalize M.dec (nums u) = p at *
      obtain ⟨c, n⟩ := p
      dsimp only at *
      have HD := hide hdc; clear hdc
      have HS := hide hst; clear hst
      have HN := hide hNE; clear hNE
      have HZ := hide hz; clear hz
      by_cases hn : n = 0
      · have HI := hide hinv; clear hinv
        have hn' : ((n : Int) == 0) = true := by rw [beq_iff_eq]; omega
        go_wp2_with fail
        refine (unhide HD).mono ?_
        rintro e w1 ⟨rfl, hb⟩
        go_wp2
        go_ret
        refine ⟨?_, hB.trans (hb.mono hB.size)⟩
        rw [unhide HV, unhide HS, hn]; rfl
      · obtain ⟨d1, d2, d3⟩ := hinv hn
        have hn' : ((n : Int) == 0) = false := by rw [beq_eq_false_iff_ne]; omega
        have hnle : n ≤ u.size := by
          have := congrArg List.length d2
          rw [List.length_append, nums_len] at this; omega
        have h1n : (1 : Int) ≤ (n : Int) := by omega
        have hnle' : (n : Int) ≤ (u.size : Int) := by omega
        have D2 := hide d2; clear d2
        have D3 := hide d3; clear d3
        clear hinv
        have hsz := size_extract u n
        have HZ2 := hide hsz; clear hsz
        have fin : ∀ (w2 : World), Below wr.heap.size wr w2 → (decide (n = 0) || h && M.isLo c) = false → (∃ (u_1 : ByteArray) (h : Bool),
            Value.string (u.extract n u.size) = Value.string u_1 ∧ Value.bool (hiZ ↑c) = Value.bool h ∧ M.valid false (nums s) = M.valid h (nums u_1) ∧ Below w.heap.size w w2) ∧
            strLen (Value.string (u.extract n u.size)) < strLen (Value.string u) := by
          intro w2 hb he
          refine ⟨⟨u.extract n u.size, M.isHi c, rfl, by rw [hiZ_nat], ?_, hB.trans (hb.mono hB.size)⟩, ?_⟩
          · rw [unhide HV, unhide HS, he, nums_extract]; simp
          · simp only [strLen]; rw [unhide HZ2]; omega
        have FIN := hide fin; clear fin
        cases h with
        | true =>
          go_wp2_with fail
          refine (unhide HD).mono ?_
          rintro e w1 ⟨rfl, hb⟩
          go_wp2_with fail
          refine (isLow_any _ _).mono ?_
          rintro e w2 ⟨rfl, rfl⟩
          rw [loZ_nat]
          cases hl : M.isLo c with
          | true =>
            go_wp2
            go_ret
            refine ⟨?_, hB.trans (hb.mono hB.size)⟩
            rw [unhide HV, unhide HS, hl]; simp
          | false =>
            go_wp2_with fail
            refine (isHigh_any _ _).mono ?_
            rintro e w3 ⟨rfl, rfl⟩
            go_wp2
            exact unhide FIN _ hb (by simp [hl, hn])
        | false =>
          go_wp2_with fail
          refine (unhide HD).mono ?_
          rintro e w1 ⟨rfl, hb⟩
          go_wp2_with fail
          refine (isHigh_any _ _).mono ?_
          rintro e w2 ⟨rfl, rfl⟩
          go_wp2
          exact unhide FIN _ hb (by simp [hn])
end Go.Proofs.YtmemceindohklaaDoor

/-! Wd -/
namespace Go.Proofs.YtmemceindohklaaDoor
open Go.RowKit Go.Shelf
attribute [local go_sem] Oper.semAt_some

/-- a code point; a code point and where it begins -/
abbrev CP := { c : Nat // c ≤ 1114111 }
abbrev PT := { x : Nat × Nat // x.2 ≤ 1114111 }
def wid (c : Nat) : Nat := if 65536 ≤ c then 2 else 1
def pts : Nat → List CP → List PT
  | _, [] => []
  | k, c :: r => ⟨(k, c.1), c.2⟩ :: pts (k + wid c.1) r
def encs (x : PT) : Array Value := #[.int .i64 (x.1.1 : Nat), .int .i32 (x.1.2 : Nat)]
def bytes (cs : List CP) : List Nat := (cs.map (·.1)).flatMap M.E

theorem tabs_size {w : World} (h : Lib.Utf8Tabs 4 5 w) : 6 ≤ w.heap.size := by
  have := (h.2 0 (by omega)).1
  rcases Nat.lt_or_ge 5 w.heap.size with h' | h'
  · omega
  · simp [World.cell?, Array.getElem?_eq_none h'] at this
theorem tabs_belowB {B : Nat} {w w' : World} (h : Lib.Utf8Tabs 4 5 w) (hB : 6 ≤ B) (hb : Below B w w') : Lib.Utf8Tabs 4 5 w' :=
  ⟨fun c hc => (hb.cell (p := ⟨4, c, none⟩) (by show 4 < B; omega)).trans (h.1 c hc), fun i hi => ⟨(hb.cell (p := ⟨5, 2 * i, none⟩) (by show 5 < B; omega)).trans (h.2 i hi).1, (hb.cell (p := ⟨5, 2 * i + 1, none⟩) (by show 5 < B; omega)).trans (h.2 i hi).2⟩⟩
theorem grown_of_below {w w' : World} (h : Below w.heap.size w w') : w.grownBy w' none := ⟨h.os, h.tape, h.output, h.size, fun k hk _ => h.block k hk⟩

theorem isEmpty_of_nil {u : ByteArray} (h : nums u = []) : u.toList.isEmpty = true := by
  unfold nums at h
  rw [List.map_eq_nil_iff] at h
  simp [Lib.toList_data, h]
theorem isEmpty_of_size {u : ByteArray} (h : 0 < u.size) : u.toList.isEmpty = false := by
  cases hE : u.toList.isEmpty with
  | false => rfl
  | true =>
    have e : u.data.toList = [] := by simpa [Lib.toList_data] using hE
    have : u.size = 0 := by rw [ByteArray.size, ← Array.length_toList, e]; rfl
    omega
theorem wid_le (c : Nat) : wid c ≤ (M.E c).length := by
  unfold wid M.E; repeat' split
  all_goals (simp; try omega)
end Go.Proofs.YtmemceindohklaaDoor

/-! We -/
namespace Go.Proofs.YtmemceindohklaaDoor
open Go.RowKit Go.Shelf
attribute [local go_sem] Oper.semAt_some

def u16v (u : Nat) : Value := .int .u16 (u : Nat)
def unitsN (cs : List Nat) : List Nat := cs.flatMap M.U
/-- append onto a row of one's own, as one step of a region that draws its order, inside a fence. -/
theorem stepIn_append {F : Fence} {n : Nat} {P : Program} (w : World) {ops : Array Oper} {o : Oper} {a : Act} {K : Act → World → Prop} {Q : Exit → Act → World → Prop} {E : Prop}
    (hg : o.guard = none) (s x : Operand) (t : TypeId) (hop : o.op = Op.call { callee := Callee.builtin Builtin.append, args := #[s, x], argTypes := #[t, t] })
    (base : Nat) (e : TypeId) (i : TypeInfo) (z : Value) (size bytes : Nat) (h1 : P.underlying t = some (.slice e)) (h2 : P.info? e = some i) (h3 : i.zero = some z) (h4 : i.size = size) (h5 : i.bytes = bytes) (h6 : z.cells.size = size) (h7 : 0 < size)
    (v : Value) (k : Nat) (xs : List Value) (hs : a.eval s = v) (hown : w.ownsRow base e size v k xs) (ad : Addr) (m c : Nat) (news : List Value) (hx : a.eval x = .slice (some ad) m c) (hn : news.length = m * size)
    (hc : ∀ j u, news[j]? = some u → w.cell? (ad.add j) = some u) (h1c : ∀ u ∈ news, u.oneCell' = true) (b1 : k + m ≤ maxLen) (b2 : (k + m) * bytes ≤ 140737488355328) (b3 : base ≤ w.heap.size)
    (hK : ∀ v' w', w'.ownsRow base e size v' (k + m) (xs ++ news) → w.grownBy w' v.ownBlock → (v' = .slice none 0 0 ↔ v = .slice none 0 0 ∧ m = 0) → K (a.put o.dst v') w') :
    if Region.wanted o (yielded ops a.tmps) = true then Oper.wpIn F n P o a w K Q else E := by
  have hw : Region.wanted o (yielded ops a.tmps) = true := by simp [Region.wanted, hg]
  rw [if_pos hw]
  obtain ⟨v', w', hrun, r1, r2, r3⟩ := run_append_own (P := P) w base t o.type e i z size bytes h1 h2 h3 h4 h5 h6 h7 v k xs hown ad m c news hn hc h1c b1 b2 b3
  unfold Oper.wpIn
  refine ⟨?_, ?_⟩
  · simp [Oper.about, hop, resolve, Target.leads, Sem.run_pure]
  · rw [Oper.semAt_plain F _ _ (by rw [hop]; intro c hc'; cases hc')]
    simp [execOp, hop, resolve, invoke, builtin, hs, hx, hrun, Result.andThen]
    exact hK v' w' r1 r2 r3

def fstU (c : Nat) : Nat := if 65536 ≤ c then 55296 + (c - 65536) / 1024 else c
def sndU (c : Nat) : Nat := 56320 + (c - 65536) % 1024
theorem U_one {c : Nat} (h : ¬ 65536 ≤ c) : M.U c = [fstU c] := by simp [M.U, fstU, h, Nat.lt_of_not_le h]
theorem U_two {c : Nat} (h : 65536 ≤ c) : M.U c = [fstU c, sndU c] := by simp [M.U, fstU, sndU, h, Nat.not_lt.2 h]

def uN (l : List PT) : List Nat := l.flatMap fun x => M.U x.1.2
theorem uN_snoc (l : List PT) (x : PT) : uN (l ++ [x]) = uN l ++ M.U x.1.2 := by simp [uN]
theorem uN_pts : ∀ (k : Nat) (cs : List CP), uN (pts k cs) = unitsN (cs.map (·.1))
  | _, [] => rfl
  | k, c :: r => by
    have := uN_pts (k + wid c.1) r
    simp only [uN, unitsN, pts, List.flatMap_cons, List.map_cons] at *
    rw [this]
theorem pts_len : ∀ (k : Nat) (cs : List CP), (pts k cs).length = cs.length
  | _, [] => rfl
  | k, c :: r => by simp [pts, pts_len]
theorem U_len (c : Nat) : (M.U c).length ≤ 2 := by unfold M.U; split <;> simp
theorem uN_len (l : List PT) : (uN l).length ≤ 2 * l.length := by
  induction l with
  | nil => simp [uN]
  | cons x r ih => have := U_len x.1.2; simp only [uN, List.flatMap_cons, List.length_append, List.length_cons] at *; omega
theorem bytes_len : ∀ (cs : List CP), cs.length ≤ (bytes cs).length
  | [] => by simp [bytes]
  | c :: r => by
    have := bytes_len r; have := M.E_len c.1
    simp only [bytes, List.map_cons, List.flatMap_cons, List.length_append, List.length_cons] at *; omega

end Go.Proofs.YtmemceindohklaaDoor
