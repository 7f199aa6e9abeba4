import Derived.Test.YtmemceindohklaaDoorQa
import Derived.Shelf.Strconv.Itoa0
import Derived.Shelf.Strconv.Itoa1
import Derived.Shelf.LaysM
import Derived.Shelf.Small.Bits
import Derived.Shelf.Strconv.Itoa2
import Derived.Test.YtmemceindohklaaDoorProg
import Derived.Sort.LotC

/-
  DERIVED: THE SHELF's CONTRACTS AT THIS DUMP, IN PLAIN WORDS (tools/lay-plain.mjs out of 'TrydShelf.lean', which tools/lay-shelf.mjs wrote): THE SAME DECLARATIONS UNDER THE SAME NAMES: 'import', 'namespace', 'open', 'def', 'theorem' AND NOTHING ELSE: no command of the shelf's: FOR A HAND-IN. Each laying: the table of numbers ('.._ren') and one theorem, a field a fact of the dump's own or the kernel's comparison; each contract: ONE APPLICATION.
-/
namespace Go.Proofs
open Go.Shelf
def Tryd.lays125_ren : Go.Shelf.Ren := ⟨fun | 125 => 50 | 128 => 66 | 129 => 67 | n => n, fun | 46 => 99 | 3 => 3 | 51 => 89 | 53 => 69 | 4 => 4 | 5 => 5 | 9 => 9 | n => n, fun | n => n⟩
theorem Tryd.lays125 : Go.Proofs.Lays.n125 Tryd.prog Tryd.lays125_ren := {
  mixed := by kernel_rfl
  f125 := Tryd.func50.trans (congrArg some (by kernel_rfl))
  f128 := Tryd.func66.trans (congrArg some (by kernel_rfl))
  f129 := Tryd.func67.trans (congrArg some (by kernel_rfl))
  t3 := Tryd.underlying3
  a3 := Tryd.isAgg3
  z3 := Tryd.sizeOf3
  v3 := Tryd.zeroValue3
  t4 := Tryd.underlying4
  a4 := Tryd.isAgg4
  z4 := Tryd.sizeOf4
  v4 := Tryd.zeroValue4
  t5 := Tryd.underlying5
  a5 := Tryd.isAgg5
  z5 := Tryd.sizeOf5
  v5 := Tryd.zeroValue5
  t9 := Tryd.underlying9
  a9 := Tryd.isAgg9
  z9 := Tryd.sizeOf9
  v9 := Tryd.zeroValue9
  t46 := Tryd.underlying99
  a46 := Tryd.isAgg99
  z46 := Tryd.sizeOf99
  v46 := Tryd.zeroValue99
  t51 := Tryd.underlying89
  a51 := Tryd.isAgg89
  z51 := Tryd.sizeOf89
  v51 := Tryd.zeroValue89
  t53 := Tryd.underlying69
  a53 := Tryd.isAgg69
  z53 := Tryd.sizeOf69
  v53 := Tryd.zeroValue69 }
/-- bits.Len: "Len returns the minimum number of bits required to represent x; the result is 0 for x == 0.": IT RETURNS 'Lib.bitLen x'; the world is as it was. (A uint has 64 bits in the model.) ITS CALLEE bits.Len64 IS MET BY ITS OWN CONTRACT OFF THE SHELF (lay that first). (LAID: no walk: one application.) -/
theorem Tryd.bits_Len (x : Int) (w : World) (h0 : 0 ≤ x) (h1 : x ≤ 18446744073709551615) :
    Calls Tryd.prog 50 #[.int .u64 x] w fun e w' => e = .returned (.int .i64 (Lib.bitLen x.toNat)) ∧ w' = w := Any.bits_Len Tryd.lays125 x w h0 h1
def Tryd.lays129_ren : Go.Shelf.Ren := ⟨fun | 129 => 67 | n => n, fun | 53 => 69 | 3 => 3 | 4 => 4 | 46 => 99 | 5 => 5 | 9 => 9 | n => n, fun | n => n⟩
theorem Tryd.lays129 : Go.Proofs.Lays.n129 Tryd.prog Tryd.lays129_ren := {
  mixed := by kernel_rfl
  f129 := Tryd.func67.trans (congrArg some (by kernel_rfl))
  t3 := Tryd.underlying3
  a3 := Tryd.isAgg3
  z3 := Tryd.sizeOf3
  v3 := Tryd.zeroValue3
  t4 := Tryd.underlying4
  a4 := Tryd.isAgg4
  z4 := Tryd.sizeOf4
  v4 := Tryd.zeroValue4
  t5 := Tryd.underlying5
  a5 := Tryd.isAgg5
  z5 := Tryd.sizeOf5
  v5 := Tryd.zeroValue5
  t9 := Tryd.underlying9
  a9 := Tryd.isAgg9
  z9 := Tryd.sizeOf9
  v9 := Tryd.zeroValue9
  t46 := Tryd.underlying99
  a46 := Tryd.isAgg99
  z46 := Tryd.sizeOf99
  v46 := Tryd.zeroValue99
  t53 := Tryd.underlying69
  a53 := Tryd.isAgg69
  z53 := Tryd.sizeOf69
  v53 := Tryd.zeroValue69 }
/-- bits.Len64: "Len64 returns the minimum number of bits required to represent x; the result is 0 for x == 0.": IT RETURNS 'Lib.bitLen x'; the world is as it was. ('h0', 'h1': x is a uint64.) (LAID: no walk: one application.) -/
theorem Tryd.bits_Len64 (x : Int) (w : World) (h0 : 0 ≤ x) (h1 : x ≤ 18446744073709551615) :
    Calls Tryd.prog 67 #[.int .u64 x] w fun e w' => e = .returned (.int .i64 (Lib.bitLen x.toNat)) ∧ w' = w := Any.bits_Len64 Tryd.lays129 x w h0 h1
def Tryd.lays317_ren : Go.Shelf.Ren := ⟨fun | 317 => 84 | n => n, fun | 3 => 3 | 46 => 99 | n => n, fun | n => n⟩
theorem Tryd.lays317 : Go.Proofs.Lays.n317 Tryd.prog Tryd.lays317_ren := {
  mixed := by kernel_rfl
  f317 := Tryd.func84.trans (congrArg some (by kernel_rfl))
  t3 := Tryd.underlying3
  a3 := Tryd.isAgg3
  z3 := Tryd.sizeOf3
  v3 := Tryd.zeroValue3
  t46 := Tryd.underlying99
  a46 := Tryd.isAgg99
  z46 := Tryd.sizeOf99
  v46 := Tryd.zeroValue99 }
open Go.Lib in
/-- internal/strconv.log10Pow2: "log10Pow2(x) returns ⌊log₁₀ 2**x⌋ = ⌊x * log₁₀ 2⌋.": '(x * 78913) >> 18', at an x up to 64 (a length in bits). The world is as it was. (LAID: no walk: one application.) -/
theorem Tryd.internal_strconv_log10Pow2 (x : Nat) (h : x ≤ 64) (w : World) :
    Calls Tryd.prog 84 #[.int .i64 x] w fun e w' => e = .returned (.int .i64 (Lib.l10 x)) ∧ w' = w := Any.internal_strconv_log10Pow2 Tryd.lays317 x h w
def Tryd.lays318_ren : Go.Shelf.Ren := ⟨fun | 318 => 85 | n => n, fun | 3 => 3 | 4 => 4 | n => n, fun | n => n⟩
theorem Tryd.lays318 : Go.Proofs.Lays.n318 Tryd.prog Tryd.lays318_ren := {
  mixed := by kernel_rfl
  f318 := Tryd.func85.trans (congrArg some (by kernel_rfl))
  t3 := Tryd.underlying3
  a3 := Tryd.isAgg3
  z3 := Tryd.sizeOf3
  v3 := Tryd.zeroValue3
  t4 := Tryd.underlying4
  a4 := Tryd.isAgg4
  z4 := Tryd.sizeOf4
  v4 := Tryd.zeroValue4 }
open Go.Lib in
/-- internal/strconv.bool2: "bool2 converts b to an integer: 1 for true, 0 for false." The world is as it was. (LAID: no walk: one application.) -/
theorem Tryd.internal_strconv_bool2_int (b : Bool) (w : World) :
    Calls Tryd.prog 85 #[.bool b] w fun e w' => e = .returned (.int .i64 (if b then 1 else 0)) ∧ w' = w := Any.internal_strconv_bool2_int Tryd.lays318 b w
def Tryd.lays283_ren : Go.Shelf.Ren := ⟨fun | 283 => 76 | n => n, fun | 3 => 3 | 9 => 9 | 4 => 4 | n => n, fun | n => n⟩
theorem Tryd.lays283 : Go.Proofs.Lays.n283 Tryd.prog Tryd.lays283_ren := {
  mixed := by kernel_rfl
  f283 := Tryd.func76.trans (congrArg some (by kernel_rfl))
  t3 := Tryd.underlying3
  a3 := Tryd.isAgg3
  z3 := Tryd.sizeOf3
  v3 := Tryd.zeroValue3
  t4 := Tryd.underlying4
  a4 := Tryd.isAgg4
  z4 := Tryd.sizeOf4
  v4 := Tryd.zeroValue4
  t9 := Tryd.underlying9
  a9 := Tryd.isAgg9
  z9 := Tryd.sizeOf9
  v9 := Tryd.zeroValue9 }
open Go.Lib in
/-- internal/strconv.small: "small returns the string for an i with 0 <= i < nSmalls.": i's decimal numeral. The world is as it was. (LAID: no walk: one application.) -/
theorem Tryd.internal_strconv_small (i : Nat) (h : i < 100) (w : World) :
    Calls Tryd.prog 76 #[.int .i64 i] w fun e w' => e = .returned (.string ⟨(Lib.decDigits i).toArray⟩) ∧ w' = w := Any.internal_strconv_small Tryd.lays283 i h w
def Tryd.laysM284_ren : Go.Shelf.Ren := ⟨fun | 284 => 77 | 129 => 67 | 317 => 84 | 318 => 85 | n => n, fun | 53 => 69 | 3 => 3 | 212 => 152 | 0 => 0 | 4 => 4 | 46 => 99 | 5 => 5 | 9 => 9 | n => n, fun | 17 => 1 | n => n⟩
theorem Tryd.laysM284 : Go.Proofs.LaysM.n284 Tryd.prog Tryd.laysM284_ren := {
  mixed := by kernel_rfl
  f129 := Tryd.func67.trans (congrArg some (by kernel_rfl))
  f284 := Tryd.func77.trans (congrArg some (by kernel_rfl))
  f317 := Tryd.func84.trans (congrArg some (by kernel_rfl))
  f318 := Tryd.func85.trans (congrArg some (by kernel_rfl))
  t0 := Tryd.underlying0
  a0 := Tryd.isAgg0
  z0 := Tryd.sizeOf0
  v0 := Tryd.zeroValue0
  t3 := Tryd.underlying3
  a3 := Tryd.isAgg3
  z3 := Tryd.sizeOf3
  v3 := Tryd.zeroValue3
  t4 := Tryd.underlying4
  a4 := Tryd.isAgg4
  z4 := Tryd.sizeOf4
  v4 := Tryd.zeroValue4
  t5 := Tryd.underlying5
  a5 := Tryd.isAgg5
  z5 := Tryd.sizeOf5
  v5 := Tryd.zeroValue5
  t9 := Tryd.underlying9
  a9 := Tryd.isAgg9
  z9 := Tryd.sizeOf9
  v9 := Tryd.zeroValue9
  t46 := Tryd.underlying99
  a46 := Tryd.isAgg99
  z46 := Tryd.sizeOf99
  v46 := Tryd.zeroValue99
  t53 := Tryd.underlying69
  a53 := Tryd.isAgg69
  z53 := Tryd.sizeOf69
  v53 := Tryd.zeroValue69
  t212 := Tryd.underlying152
  a212 := Tryd.isAgg152
  z212 := Tryd.sizeOf152
  v212 := Tryd.zeroValue152
  g17 := by kernel_rfl
  i0 := by kernel_rfl
  i3 := by kernel_rfl
  i4 := by kernel_rfl
  i5 := by kernel_rfl
  i9 := by kernel_rfl
  i46 := by kernel_rfl
  i53 := by kernel_rfl
  i212 := by kernel_rfl
  m17 := by kernel_rfl }
open Go.Lib in
/-- internal/strconv.numDigits, at a d that is not 0: THE NUMBER OF d's DECIMAL DIGITS. The world is as it was. (LAID: no walk: one application.) -/
theorem Tryd.internal_strconv_numDigits (u : Nat) (h1 : 1 ≤ u) (h2 : u < 18446744073709551616) (w : World) (htab : Lib.TabIs Tryd.prog w "internal/strconv.uint64pow10" .u64 Lib.pow10Tab) :
    Calls Tryd.prog 77 #[.int .u64 u] w fun e w' => e = .returned (.int .i64 (Lib.nDigits u)) ∧ w' = w := Any.internal_strconv_numDigits Tryd.laysM284 u h1 h2 w htab
def Tryd.lays285_ren : Go.Shelf.Ren := ⟨fun | 285 => 78 | n => n, fun | 37 => 130 | 53 => 69 | 3 => 3 | 4 => 4 | 51 => 89 | 9 => 9 | 5 => 5 | 0 => 0 | n => n, fun | n => n⟩
theorem Tryd.lays285 : Go.Proofs.Lays.n285 Tryd.prog Tryd.lays285_ren := {
  mixed := by kernel_rfl
  f285 := Tryd.func78.trans (congrArg some (by kernel_rfl))
  t0 := Tryd.underlying0
  a0 := Tryd.isAgg0
  z0 := Tryd.sizeOf0
  v0 := Tryd.zeroValue0
  t3 := Tryd.underlying3
  a3 := Tryd.isAgg3
  z3 := Tryd.sizeOf3
  v3 := Tryd.zeroValue3
  t4 := Tryd.underlying4
  a4 := Tryd.isAgg4
  z4 := Tryd.sizeOf4
  v4 := Tryd.zeroValue4
  t5 := Tryd.underlying5
  a5 := Tryd.isAgg5
  z5 := Tryd.sizeOf5
  v5 := Tryd.zeroValue5
  t9 := Tryd.underlying9
  a9 := Tryd.isAgg9
  z9 := Tryd.sizeOf9
  v9 := Tryd.zeroValue9
  t37 := Tryd.underlying130
  a37 := Tryd.isAgg130
  z37 := Tryd.sizeOf130
  v37 := Tryd.zeroValue130
  t51 := Tryd.underlying89
  a51 := Tryd.isAgg89
  z51 := Tryd.sizeOf89
  v51 := Tryd.zeroValue89
  t53 := Tryd.underlying69
  a53 := Tryd.isAgg69
  z53 := Tryd.sizeOf69
  v53 := Tryd.zeroValue69 }
open Go.RowKit Go.Sort Go.Lib in
/-- internal/strconv.formatBase10: "formatBase10 formats the decimal representation of u into a. The caller is responsible for ensuring that a is big enough to hold u. If a is too big, leading zeros will be filled in as needed.": THE ROW HOLDS u's DIGITS ('FmtInv .. 0 ..': every place t holds 'dg u (len - 1 - t)'); all else is as it was but for the count of draws. (LAID: no walk: one application.) -/
theorem Tryd.internal_strconv_formatBase10 (blk off cap : Nat) (u : Nat) (d : Array UInt8) (w : World) (hH : Holds (fun (b : UInt8) => Value.int .u8 (b.toNat : Int)) w blk off d) (hu : u < 10 ^ d.size) (hu64 : u < 18446744073709551616) (hsz : d.size < 4611686018427387904) :
    Calls Tryd.prog 78 #[.slice (some ⟨blk, off, none⟩) d.size cap, .int .u64 u] w fun e w' =>
      e = .returned (.tuple #[]) ∧ ∃ (n v' : Nat) (dk : Array UInt8), w' = (putRow (fun (b : UInt8) => Value.int .u8 (b.toNat : Int)) w blk off dk).drewN n ∧ FmtInv d.size u 0 v' dk := Any.internal_strconv_formatBase10 Tryd.lays285 blk off cap u d w hH hu hu64 hsz
end Go.Proofs

/-! Kb -/
namespace Go.Proofs.YtmemceindohklaaDoor
open Go Go.Proofs Go.RowKit Go.Sort
set_option linter.unusedSimpArgs false
set_option linter.unusedVariables false
theorem sd_stop (hi first root : Nat) (d : Array Nat) (h : 2 * root + 1 ≥ hi) : siftDown ltN hi first root d = d := by
  rw [siftDown, dif_pos h]
theorem sd_one (hi first root : Nat) (d : Array Nat) (h : ¬ 2 * root + 1 ≥ hi) (h1 : ¬ (2 * root + 1 + 1 < hi ∧ ltN d[first + (2 * root + 1)]! d[first + (2 * root + 1) + 1]! = true)) :
    siftDown ltN hi first root d = if ltN d[first + root]! d[first + (2 * root + 1)]! then siftDown ltN hi first (2 * root + 1) (swp d (first + root) (first + (2 * root + 1))) else d := by
  rw [siftDown, dif_neg h, if_neg (by simpa using h1)]
  cases ltN d[first + root]! d[first + (2 * root + 1)]! <;> simp
theorem sd_two (hi first root : Nat) (d : Array Nat) (h : ¬ 2 * root + 1 ≥ hi) (h1 : 2 * root + 1 + 1 < hi) (h2 : ltN d[first + (2 * root + 1)]! d[first + (2 * root + 1) + 1]! = true) :
    siftDown ltN hi first root d = if ltN d[first + root]! d[first + (2 * root + 2)]! then siftDown ltN hi first (2 * root + 2) (swp d (first + root) (first + (2 * root + 2))) else d := by
  rw [siftDown, dif_neg h, if_pos (by simp [h1, h2])]
  cases ltN d[first + root]! d[first + (2 * root + 2)]!
  · simp
  · simp only [Bool.not_true, Bool.false_eq_true, if_false, if_true]
    rw [dif_pos (by omega)]
set_option maxHeartbeats 4000000 in
set_option maxRecDepth 100000 in
theorem sift78 (blk cap lo hi first : Nat) (d : Array Nat) (w : World) (hL : LiesU w blk d) (hlo : lo ≤ d.size) (hfh : first + hi ≤ d.size) (hsz : d.size ≤ 3000) :
    Calls Tryd.prog 70 #[.slice (some ⟨blk, 0, none⟩) d.size cap, .int .i64 lo, .int .i64 hi, .int .i64 first] w fun e w' => e = .returned (.tuple #[]) ∧ LiesU w' blk (siftDown ltN hi first lo d) ∧ w.grownBy w' (some blk) := by
  have HL := hide hL
  clear hL
  go_enter Tryd.func70, Tryd.ntmps70
  go_wp2_with fail
  go_loopg [8] (d.size + 1) (fun g s8 wr => ∃ (root : Nat) (dk : Array Nat), s8 = .int .i64 root ∧ root ≤ d.size ∧ d.size + 1 - root ≤ g ∧ Hid (dk.size = d.size) ∧ Hid (LiesU wr blk dk) ∧ Hid (w.grownBy wr (some blk)) ∧ Hid (siftDown ltN hi first root dk = siftDown ltN hi first lo d))
  case atStart => exact ⟨lo, d, rfl, hlo, by omega, hide rfl, HL, hide (gb_refl _ _), hide rfl⟩
  case round =>
    obtain ⟨root, dk, rfl, hrs, hg, hsk, hLk, hGk, hOk⟩ := hrel
    obtain ⟨c, hc⟩ : ∃ c, c = 2 * root + 1 := ⟨_, rfl⟩
    have y1 : IntKind.i64.wrap (2 * (root : Int)) = 2 * (root : Int) := by rw [IntKind.wrap_i64]; omega
    have y2 : IntKind.i64.wrap (2 * (root : Int) + 1) = (c : Int) := by rw [IntKind.wrap_i64]; omega
    have HCc := hide hc
    by_cases hst : 2 * root + 1 ≥ hi
    · have HE := hide (sd_stop hi first root dk hst)
      have z1 : (hi : Int) ≤ c := by omega
      clear hc
      go_wp2
      go_end0
      refine ⟨rfl, ?_, unhide hGk⟩
      rw [← unhide hOk, unhide HE]
      exact unhide hLk
    · have hds := unhide hsk
      have z1 : ¬ (hi : Int) ≤ c := by omega
      have y3 : IntKind.i64.wrap ((c : Int) + 1) = (c : Int) + 1 := by rw [IntKind.wrap_i64]; omega
      have y4 : IntKind.i64.wrap ((first : Int) + (c : Int)) = (first : Int) + (c : Int) := by rw [IntKind.wrap_i64]; omega
      have y5 : IntKind.i64.wrap ((first : Int) + (c : Int) + 1) = (first : Int) + (c : Int) + 1 := by rw [IntKind.wrap_i64]; omega
      have y5' : IntKind.i64.wrap ((first : Int) + ((c : Int) + 1)) = (first : Int) + (c : Int) + 1 := by rw [IntKind.wrap_i64]; omega
      have y6 : IntKind.i64.wrap ((first : Int) + (root : Int)) = (first : Int) + (root : Int) := by rw [IntKind.wrap_i64]; omega
      have y7 : ((first : Int) + (root : Int)).toNat = first + root := by omega
      have y8 : ((first : Int) + (c : Int)).toNat = first + c := by omega
      have y9 : ((first : Int) + (c : Int) + 1).toNat = first + c + 1 := by omega
      have x1 : (0 : Int) ≤ (first : Int) + (root : Int) := by omega
      have x2 : (first : Int) + (root : Int) < d.size := by omega
      have x3 : (0 : Int) ≤ (first : Int) + (c : Int) := by omega
      have x4 : (first : Int) + (c : Int) < d.size := by omega
      have x5 : (0 : Int) ≤ (first : Int) + (c : Int) + 1 := by omega
      have n1 : ¬ c = root := by omega
      have n2 : ¬ root = c := by omega
      have n3 : ¬ first + c + 1 = first + root := by omega
      have n4 : ¬ first + root = first + c + 1 := by omega
      obtain ⟨c0, f0⟩ := (unhide hLk).cell (first + root) (by omega)
      obtain ⟨c1, f1⟩ := (unhide hLk).cell (first + c) (by omega)
      by_cases h1 : 2 * root + 1 + 1 < hi
      · have z2 : (c : Int) + 1 < hi := by omega
        have x6 : (first : Int) + (c : Int) + 1 < d.size := by omega
        obtain ⟨c2, f2⟩ := (unhide hLk).cell (first + c + 1) (by omega)
        have HS1 := hide (fun n => ((unhide hLk).drew n).swap (first + root) (first + c) (by omega) (by omega))
        have HS2 := hide (fun n => ((unhide hLk).drew n).swap (first + root) (first + c + 1) (by omega) (by omega))
        have HA := hide (fun (h : ltN dk[first + (2 * root + 1)]! dk[first + (2 * root + 1) + 1]! = false) => sd_one hi first root dk hst (fun h' => by rw [h] at h'; cases h'.2))
        have HB := hide (sd_two hi first root dk hst h1)
        have eidx : first + (2 * root + 2) = first + (2 * root + 1) + 1 := by omega
        have e2 : 2 * root + 2 = c + 1 := by omega
        rw [eidx, e2] at HB
        rw [← hc] at HA HB
        clear eidx e2 hds hc
        generalize dk[first + root]! = v0 at *
        generalize dk[first + c]! = v1 at *
        generalize dk[first + c + 1]! = v2 at *
        have HC := hide (less67 v1 v2)
        have HC1 := hide (less67 v0 v1)
        have HC2 := hide (less67 v0 v2)
        generalize ltN v1 v2 = r at *
        generalize ltN v0 v1 = r1 at *
        generalize ltN v0 v2 = r2 at *
        cases r
        · have HE := hide (unhide HA rfl)
          clear HA HB HS2 HC2
          cases r1
          · rw [if_neg (by simp)] at HE
            go_wp2_with fail
            go_quiet ((go_at_call 63; refine (unhide HC _).mono ?_; rintro e w9 ⟨rfl, rfl⟩; exact ⟨rfl, _, rfl⟩))
            go_wp2_with fail
            go_quiet ((go_at_call 63; refine (unhide HC1 _).mono ?_; rintro e w9 ⟨rfl, rfl⟩; exact ⟨rfl, _, rfl⟩))
            go_wp2
            (try simp only [Exit.inBlock, Exit.then])
            refine bodyPost_ret (results_none rfl _ _ _) rfl ?_
            refine ⟨rfl, ?_, gb_drew (gb_drew (unhide hGk) _) _⟩
            rw [← unhide hOk, unhide HE]
            exact (unhide hLk).grown rfl
          · rw [if_pos rfl] at HE
            go_wp2_with fail
            go_quiet ((go_at_call 63; refine (unhide HC _).mono ?_; rintro e w9 ⟨rfl, rfl⟩; exact ⟨rfl, _, rfl⟩))
            go_wp2_with fail
            go_quiet ((go_at_call 63; refine (unhide HC1 _).mono ?_; rintro e w9 ⟨rfl, rfl⟩; exact ⟨rfl, _, rfl⟩))
            go_wp2_with fail
            go_region
            all_goals go_wp2
            go_roundg (d.size + 1 - (c))
            case measure => (have := unhide HCc; omega)
            case rel => (have hcc := unhide HCc; exact ⟨c, swp dk (first + root) (first + c), by go_num, by omega, Nat.le_refl _, hide (by rw [swp_size]; exact unhide hsk), hide (unhide HS1 _), hide (gb_trans (gb_drew (unhide hGk) _) (gb_swap _ _ _ _ _ _)), hide (by rw [← unhide hOk, unhide HE])⟩)
        · have HE := hide (unhide HB rfl)
          clear HA HB HS1 HC1
          cases r2
          · rw [if_neg (by simp)] at HE
            go_wp2_with fail
            go_quiet ((go_at_call 63; refine (unhide HC _).mono ?_; rintro e w9 ⟨rfl, rfl⟩; exact ⟨rfl, _, rfl⟩))
            go_wp2_with fail
            go_quiet ((go_at_call 63; refine (unhide HC2 _).mono ?_; rintro e w9 ⟨rfl, rfl⟩; exact ⟨rfl, _, rfl⟩))
            go_wp2
            (try simp only [Exit.inBlock, Exit.then])
            refine bodyPost_ret (results_none rfl _ _ _) rfl ?_
            refine ⟨rfl, ?_, gb_drew (gb_drew (unhide hGk) _) _⟩
            rw [← unhide hOk, unhide HE]
            exact (unhide hLk).grown rfl
          · rw [if_pos rfl] at HE
            go_wp2_with fail
            go_quiet ((go_at_call 63; refine (unhide HC _).mono ?_; rintro e w9 ⟨rfl, rfl⟩; exact ⟨rfl, _, rfl⟩))
            go_wp2_with fail
            go_quiet ((go_at_call 63; refine (unhide HC2 _).mono ?_; rintro e w9 ⟨rfl, rfl⟩; exact ⟨rfl, _, rfl⟩))
            go_wp2_with fail
            go_region
            all_goals go_wp2
            go_roundg (d.size + 1 - (c + 1))
            case measure => (have := unhide HCc; omega)
            case rel => (have hcc := unhide HCc; exact ⟨c + 1, swp dk (first + root) (first + c + 1), by go_num, by omega, Nat.le_refl _, hide (by rw [swp_size]; exact unhide hsk), hide (unhide HS2 _), hide (gb_trans (gb_drew (unhide hGk) _) (gb_swap _ _ _ _ _ _)), hide (by rw [← unhide hOk, unhide HE])⟩)
      · have z2 : ¬ (c : Int) + 1 < hi := by omega
        have HS1 := hide (fun n => ((unhide hLk).drew n).swap (first + root) (first + c) (by omega) (by omega))
        have HE := hide (sd_one hi first root dk hst (fun h' => h1 h'.1))
        rw [← hc] at HE
        clear hds hc
        generalize dk[first + root]! = v0 at *
        generalize dk[first + c]! = v1 at *
        have HC1 := hide (less67 v0 v1)
        generalize ltN v0 v1 = r1 at *
        cases r1
        · rw [if_neg (by simp)] at HE
          go_wp2_with fail
          have z3 : decide ((c : Int) + 1 < hi) = false := decide_eq_false (by omega)
          go_quiet (fail)
          go_wp2_with fail
          go_quiet ((go_at_call 63; refine (unhide HC1 _).mono ?_; rintro e w9 ⟨rfl, rfl⟩; exact ⟨rfl, _, rfl⟩))
          go_wp2
          (try simp only [Exit.inBlock, Exit.then])
          refine bodyPost_ret (results_none rfl _ _ _) rfl ?_
          refine ⟨rfl, ?_, gb_drew (gb_drew (unhide hGk) _) _⟩
          rw [← unhide hOk, unhide HE]
          exact (unhide hLk).grown rfl
        · rw [if_pos rfl] at HE
          go_wp2_with fail
          have z3 : decide ((c : Int) + 1 < hi) = false := decide_eq_false (by omega)
          go_quiet (fail)
          go_wp2_with fail
          go_quiet ((go_at_call 63; refine (unhide HC1 _).mono ?_; rintro e w9 ⟨rfl, rfl⟩; exact ⟨rfl, _, rfl⟩))
          go_wp2_with fail
          go_region
          all_goals go_wp2
          go_roundg (d.size + 1 - (c))
          case measure => (have := unhide HCc; omega)
          case rel => (have hcc := unhide HCc; exact ⟨c, swp dk (first + root) (first + c), by go_num, by omega, Nat.le_refl _, hide (by rw [swp_size]; exact unhide hsk), hide (unhide HS1 _), hide (gb_trans (gb_drew (unhide hGk) _) (gb_swap _ _ _ _ _ _)), hide (by rw [← unhide hOk, unhide HE])⟩)
end Go.Proofs.YtmemceindohklaaDoor

/-! Kd -/
namespace Go.Proofs.YtmemceindohklaaDoor
open Go Go.Proofs Go.RowKit Go.Sort
set_option linter.unusedSimpArgs false
set_option linter.unusedVariables false
theorem LiesU.gb {w w' : World} {blk : Nat} {d : Array Nat} {o : Option Nat} (h : LiesU w blk d) (hg : w.grownBy w' o) (hne : some blk ≠ o) : LiesU w' blk d := h.grown (hg.block blk h.lt hne)
set_option maxHeartbeats 2000000 in
set_option maxRecDepth 100000 in
theorem median82 (blk cap a b c B s : Nat) (d : Array Nat) (w : World) (hL : LiesU w blk d) (hP : Pt w B s) (hB : blk ≠ B) (hs : s ≤ 50) (ha : a < d.size) (hb : b < d.size) (hc : c < d.size) (hsz : d.size ≤ 3000) :
    Calls Tryd.prog 74 #[.slice (some ⟨blk, 0, none⟩) d.size cap, .int .i64 a, .int .i64 b, .int .i64 c, .pointer (some ⟨B, 0, none⟩)] w fun e w' => ∃ m s' : Nat, e = .returned (.int .i64 m) ∧ (m = a ∨ m = b ∨ m = c) ∧ s' ≤ s + 3 ∧ Pt w' B s' ∧ w.grownBy w' (some B) := by
  have HL := hide hL
  have HP := hide hP
  have hBn : some blk ≠ some B := fun e => hB (Option.some.inj e)
  clear hL hP
  go_enter Tryd.func74, Tryd.ntmps74
  go_wp2_with fail
  refine (order88 blk cap a b B s d w (unhide HL) (unhide HP) (by omega) ha hb hsz).mono ?_
  rintro e w1 ⟨x1, y1, s1, rfl, h1, hs1, hP1, hG1⟩
  have HL1 := hide ((unhide HL).gb hG1 hBn)
  have HP1 := hide hP1
  have HG1 := hide hG1
  clear hP1 hG1
  go_wp2_with fail
  refine (order88 blk cap y1 c B s1 d w1 (unhide HL1) (unhide HP1) (by omega) (by omega) hc hsz).mono ?_
  rintro e w2 ⟨x2, y2, s2, rfl, h2, hs2, hP2, hG2⟩
  have HL2 := hide ((unhide HL1).gb hG2 hBn)
  have HP2 := hide hP2
  have HG2 := hide (gb_trans (unhide HG1) hG2)
  clear hP2 hG2
  go_wp2_with fail
  refine (order88 blk cap x1 x2 B s2 d w2 (unhide HL2) (unhide HP2) (by omega) (by omega) (by omega) hsz).mono ?_
  rintro e w3 ⟨x3, y3, s3, rfl, h3, hs3, hP3, hG3⟩
  have HF := hide (And.intro hP3 (gb_trans (unhide HG2) hG3))
  clear hP3 hG3
  go_wp2
  go_ret
  exact ⟨y3, s3, rfl, by omega, by omega, (unhide HF).1, (unhide HF).2⟩
set_option maxHeartbeats 2000000 in
set_option maxRecDepth 100000 in
theorem adjacent81 (blk cap a B s : Nat) (d : Array Nat) (w : World) (hL : LiesU w blk d) (hP : Pt w B s) (hB : blk ≠ B) (hs : s ≤ 50) (ha : 0 < a) (ha2 : a + 1 < d.size) (hsz : d.size ≤ 3000) :
    Calls Tryd.prog 73 #[.slice (some ⟨blk, 0, none⟩) d.size cap, .int .i64 a, .pointer (some ⟨B, 0, none⟩)] w fun e w' => ∃ m s' : Nat, e = .returned (.int .i64 m) ∧ (m = a - 1 ∨ m = a ∨ m = a + 1) ∧ s' ≤ s + 3 ∧ Pt w' B s' ∧ w.grownBy w' (some B) := by
  have HM := hide (median82 blk cap (a - 1) a (a + 1) B s d w hL hP hB hs (by omega) (by omega) ha2 hsz)
  clear hL hP
  have z1 : IntKind.i64.wrap ((a : Int) - 1) = ((a - 1 : Nat) : Int) := by rw [IntKind.wrap_i64]; omega
  have z2 : IntKind.i64.wrap ((a : Int) + 1) = ((a + 1 : Nat) : Int) := by rw [IntKind.wrap_i64]; omega
  go_enter Tryd.func73, Tryd.ntmps73
  go_wp2_with fail
  refine (unhide HM).mono ?_
  rintro e w1 ⟨m, s1, rfl, h1, hs1, hP1, hG1⟩
  have HF := hide (And.intro hP1 hG1)
  clear hP1 hG1
  go_wp2
  go_ret
  exact ⟨m, s1, rfl, h1, hs1, (unhide HF).1, (unhide HF).2⟩
set_option maxHeartbeats 2000000 in
set_option maxRecDepth 100000 in
theorem pivot64 (blk cap a b : Nat) (d : Array Nat) (w : World) (hL : LiesU w blk d) (hab : a < b) (hb : b ≤ d.size) (hsz : d.size ≤ 3000) :
    Calls Tryd.prog 60 #[.slice (some ⟨blk, 0, none⟩) d.size cap, .int .i64 a, .int .i64 b] w fun e w' => ∃ p h : Nat, e = .returned (.tuple #[.int .i64 p, .int .i64 h]) ∧ a ≤ p ∧ p < b ∧ h ≤ 2 ∧ w.grownBy w' none := by
  have HL := hide hL
  have hlt := hL.lt
  clear hL
  obtain ⟨l, hl⟩ : ∃ l, l = b - a := ⟨_, rfl⟩
  obtain ⟨q, hq⟩ : ∃ q, q = l / 4 := ⟨_, rfl⟩
  obtain ⟨i, hi⟩ : ∃ i, i = a + q := ⟨_, rfl⟩
  obtain ⟨j, hj⟩ : ∃ j, j = a + 2 * q := ⟨_, rfl⟩
  obtain ⟨k, hk⟩ : ∃ k, k = a + 3 * q := ⟨_, rfl⟩
  have z1 : IntKind.i64.wrap ((b : Int) - a) = (l : Int) := by rw [IntKind.wrap_i64]; omega
  have z2 : (l : Int).tdiv 4 = (q : Int) := by rw [Int.tdiv_eq_ediv_of_nonneg (by omega)]; omega
  have z2' : (l : Int) / 4 = (q : Int) := by omega
  have z3 : IntKind.i64.wrap ((q : Int)) = (q : Int) := by rw [IntKind.wrap_i64]; omega
  have z4 : IntKind.i64.wrap ((q : Int) * 2) = 2 * (q : Int) := by rw [IntKind.wrap_i64]; omega
  have z5 : IntKind.i64.wrap ((q : Int) * 3) = 3 * (q : Int) := by rw [IntKind.wrap_i64]; omega
  have z6 : IntKind.i64.wrap ((a : Int) + q) = (i : Int) := by rw [IntKind.wrap_i64]; omega
  have z7 : IntKind.i64.wrap ((a : Int) + 2 * (q : Int)) = (j : Int) := by rw [IntKind.wrap_i64]; omega
  have z8 : IntKind.i64.wrap ((a : Int) + 3 * (q : Int)) = (k : Int) := by rw [IntKind.wrap_i64]; omega
  have HQ := hide (And.intro hl (And.intro hq (And.intro hi (And.intro hj hk))))
  clear hl hq hi hj hk
  have hP0 : Pt (w.alloc (Obj.cells #[Value.int IntKind.i64 0] 3)) w.heap.size 0 := (show (w.heap.push _)[w.heap.size]? = _ from Array.getElem?_push_size)
  have HP0 := hide hP0
  have hL0 := (unhide HL).grown (((Below.refl _ _).alloc (Nat.le_refl _) (Obj.cells #[Value.int IntKind.i64 0] 3)).block blk hlt)
  have HL0 := hide hL0
  have HG0 : Hid (∀ X, (w.alloc (Obj.cells #[Value.int IntKind.i64 0] 3)).grownBy X (some w.heap.size) → w.grownBy X none) := hide (fun X hX => by
    have b0 := (Below.refl w.heap.size w).alloc (Nat.le_refl _) (Obj.cells #[Value.int IntKind.i64 0] 3)
    exact ⟨hX.os.trans b0.os, hX.tape.trans b0.tape, hX.output.trans b0.output, Nat.le_trans b0.size hX.size, fun c hc _ => by
      rw [hX.block c (Nat.lt_of_lt_of_le hc b0.size) (fun e => by cases e; omega)]
      exact b0.block c hc⟩)
  have hBB : blk ≠ w.heap.size := by omega
  have hBn : some blk ≠ some w.heap.size := fun e => hBB (Option.some.inj e)
  clear hP0 hL0
  by_cases h50 : 50 ≤ l
  · have y1 : (50 : Int) ≤ l := by omega
    have y2 : (8 : Int) ≤ l := by omega
    go_enter Tryd.func60, Tryd.ntmps60
    go_wp2_with fail
    refine (adjacent81 blk cap i w.heap.size 0 d _ (unhide HL0) (unhide HP0) hBB (by omega) (by have := unhide HQ; omega) (by have := unhide HQ; omega) hsz).mono ?_
    rintro e w1 ⟨i1, s1, rfl, h1, hs1, hP1, hG1⟩
    have HL1 := hide ((unhide HL0).gb hG1 hBn)
    have HP1 := hide hP1
    have HG1 := hide hG1
    clear hP1 hG1
    go_wp2_with fail
    refine (adjacent81 blk cap j w.heap.size s1 d w1 (unhide HL1) (unhide HP1) hBB (by omega) (by have := unhide HQ; omega) (by have := unhide HQ; omega) hsz).mono ?_
    rintro e w2 ⟨j1, s2, rfl, h2, hs2, hP2, hG2⟩
    have HL2 := hide ((unhide HL1).gb hG2 hBn)
    have HP2 := hide hP2
    have HG2 := hide (gb_trans (unhide HG1) hG2)
    clear hP2 hG2
    go_wp2_with fail
    refine (adjacent81 blk cap k w.heap.size s2 d w2 (unhide HL2) (unhide HP2) hBB (by omega) (by have := unhide HQ; omega) (by have := unhide HQ; omega) hsz).mono ?_
    rintro e w3 ⟨k1, s3, rfl, h3, hs3, hP3, hG3⟩
    have HL3 := hide ((unhide HL2).gb hG3 hBn)
    have HP3 := hide hP3
    have HG3 := hide (gb_trans (unhide HG2) hG3)
    clear hP3 hG3
    go_wp2_with fail
    refine (median82 blk cap i1 j1 k1 w.heap.size s3 d w3 (unhide HL3) (unhide HP3) hBB (by omega) (by have := unhide HQ; omega) (by have := unhide HQ; omega) (by have := unhide HQ; omega) hsz).mono ?_
    rintro e w4 ⟨m, s4, rfl, h4, hs4, hP4, hG4⟩
    obtain ⟨p1, p2, p3⟩ := hP4.cell
    have HF := hide (unhide HG0 _ (gb_trans (unhide HG3) hG4))
    have HR := hide (show a ≤ m ∧ m < b by have := unhide HQ; omega)
    clear hP4 hG4 h1 h2 h3 h4
    go_wp2
    all_goals
      go_ret2
      first
        | exact ⟨m, 1, rfl, (unhide HR).1, (unhide HR).2, by omega, unhide HF⟩
        | exact ⟨m, 2, rfl, (unhide HR).1, (unhide HR).2, by omega, unhide HF⟩
        | exact ⟨m, 0, rfl, (unhide HR).1, (unhide HR).2, by omega, unhide HF⟩
  · by_cases h8 : 8 ≤ l
    · have y1 : ¬ (50 : Int) ≤ l := by omega
      have y2 : (8 : Int) ≤ l := by omega
      go_enter Tryd.func60, Tryd.ntmps60
      go_wp2_with fail
      refine (median82 blk cap i j k w.heap.size 0 d _ (unhide HL0) (unhide HP0) hBB (by omega) (by have := unhide HQ; omega) (by have := unhide HQ; omega) (by have := unhide HQ; omega) hsz).mono ?_
      rintro e w4 ⟨m, s4, rfl, h4, hs4, hP4, hG4⟩
      obtain ⟨p1, p2, p3⟩ := hP4.cell
      have HF := hide (unhide HG0 _ hG4)
      have HR := hide (show a ≤ m ∧ m < b by have := unhide HQ; omega)
      clear hP4 hG4 h4
      go_wp2
      all_goals
        go_ret2
        first
          | exact ⟨m, 1, rfl, (unhide HR).1, (unhide HR).2, by omega, unhide HF⟩
          | exact ⟨m, 2, rfl, (unhide HR).1, (unhide HR).2, by omega, unhide HF⟩
          | exact ⟨m, 0, rfl, (unhide HR).1, (unhide HR).2, by omega, unhide HF⟩
    · have y1 : ¬ (50 : Int) ≤ l := by omega
      have y2 : ¬ (8 : Int) ≤ l := by omega
      have HF := hide (unhide HG0 _ (gb_refl _ _))
      have HR := hide (show a ≤ j ∧ j < b by have := unhide HQ; omega)
      go_enter Tryd.func60, Tryd.ntmps60
      go_wp2
      go_ret2
      exact ⟨j, 1, rfl, (unhide HR).1, (unhide HR).2, by omega, unhide HF⟩
end Go.Proofs.YtmemceindohklaaDoor

/-! Ke -/
namespace Go.Proofs.YtmemceindohklaaDoor
open Go Go.Proofs Go.RowKit Go.Sort
set_option linter.unusedSimpArgs false
set_option linter.unusedVariables false
theorem sd_size (hi first : Nat) : ∀ (n root : Nat) (d : Array Nat), hi - root ≤ n → (siftDown ltN hi first root d).size = d.size := by
  intro n
  induction n with
  | zero =>
    intro root d h
    rw [sd_stop _ _ _ _ (by omega)]
  | succ n ih =>
    intro root d h
    by_cases hs : 2 * root + 1 ≥ hi
    · rw [sd_stop _ _ _ _ hs]
    · by_cases h1 : 2 * root + 1 + 1 < hi ∧ ltN d[first + (2 * root + 1)]! d[first + (2 * root + 1) + 1]! = true
      · rw [sd_two _ _ _ _ hs h1.1 h1.2]
        split
        · rw [ih _ _ (by omega), swp_size]
        · rfl
      · rw [sd_one _ _ _ _ hs h1]
        split
        · rw [ih _ _ (by omega), swp_size]
        · rfl
set_option maxHeartbeats 4000000 in
set_option maxRecDepth 100000 in
theorem heap62 (blk cap a b : Nat) (d : Array Nat) (w : World) (hL : LiesU w blk d) (hab : a < b) (hb : b ≤ d.size) (hsz : d.size ≤ 3000) :
    Calls Tryd.prog 58 #[.slice (some ⟨blk, 0, none⟩) d.size cap, .int .i64 a, .int .i64 b] w fun e w' => e = .returned (.tuple #[]) ∧ LiesU w' blk (heapSort ltN d a b) ∧ w.grownBy w' (some blk) := by
  have HL := hide hL
  clear hL
  obtain ⟨h, hh⟩ : ∃ h, h = b - a := ⟨_, rfl⟩
  have z1 : IntKind.i64.wrap ((b : Int) - a) = (h : Int) := by rw [IntKind.wrap_i64]; omega
  obtain ⟨u, hu⟩ : ∃ u, u = h - 1 := ⟨_, rfl⟩
  obtain ⟨v, hv⟩ : ∃ v, v = u / 2 := ⟨_, rfl⟩
  have z2 : IntKind.i64.wrap ((h : Int) - 1) = (u : Int) := by rw [IntKind.wrap_i64]; omega
  have z3 : (u : Int).tdiv 2 = (v : Int) := by rw [Int.tdiv_eq_ediv_of_nonneg (by omega)]; omega
  have z3' : (u : Int) / 2 = (v : Int) := by omega
  have z4 : IntKind.i64.wrap (v : Int) = (v : Int) := by rw [IntKind.wrap_i64]; omega
  have hdef : heapSort ltN d a b = heapPop ltN a h (heapBuild ltN h a (v + 1) d) := by unfold heapSort; rw [← hh, hv, hu]
  have HD := hide hdef
  have HH := hide (And.intro hh (And.intro hu hv))
  clear hdef hh hu hv
  go_enter Tryd.func58, Tryd.ntmps58
  go_wp2_with fail
  go_loopg [9] (v + 1) (fun g s9 wr => ∃ (k : Nat) (dk : Array Nat), s9 = .int .i64 ((k : Int) - 1) ∧ k ≤ v + 1 ∧ k ≤ g ∧ Hid (dk.size = d.size) ∧ Hid (LiesU wr blk dk) ∧ Hid (w.grownBy wr (some blk)) ∧ Hid (heapBuild ltN h a k dk = heapBuild ltN h a (v + 1) d))
  case atStart => exact ⟨v + 1, d, by congr 1; omega, Nat.le_refl _, Nat.le_refl _, hide rfl, HL, hide (gb_refl _ _), hide rfl⟩
  case round =>
    obtain ⟨k, dk, hs9, hkv, hg, hsk, hLk, hGk, hOk⟩ := hrel
    cases k with
    | succ m =>
      have e9 : (((m + 1 : Nat) : Int) - 1) = (m : Int) := by omega
      rw [e9] at hs9
      subst hs9
      clear e9
      have HC := hide (sift78 blk cap m h a dk wr (unhide hLk) (by have := unhide HH; have := unhide hsk; omega) (by have := unhide HH; have := unhide hsk; omega) (by have := unhide hsk; omega))
      rw [unhide hsk] at HC
      have y1 : IntKind.i64.wrap ((m : Int) - 1) = (m : Int) - 1 := by have := unhide HH; rw [IntKind.wrap_i64]; omega
      have y2 : (0 : Int) ≤ m := by omega
      go_wp2_with fail
      refine (unhide HC).mono ?_
      rintro e w1 ⟨rfl, hL1, hG1⟩
      have HL1 := hide hL1
      have HG1 := hide (gb_trans (unhide hGk) hG1)
      clear hL1 hG1
      go_wp2
      go_roundg m
      case measure => omega
      case rel => exact ⟨m, siftDown ltN h a m dk, rfl, by omega, Nat.le_refl _, hide (by rw [sd_size h a _ _ _ (Nat.le_refl _)]; exact unhide hsk), HL1, HG1, hide (by rw [← unhide hOk]; rfl)⟩
    | zero =>
      have e9 : (((0 : Nat) : Int) - 1) = -1 := by omega
      rw [e9] at hs9
      subst hs9
      clear e9
      have HOk := hide (show dk = heapBuild ltN h a (v + 1) d from unhide hOk)
      clear hOk
      go_wp2_with fail
      go_loopg [10] h (fun g s10 wr => ∃ (k : Nat) (dj : Array Nat), s10 = .int .i64 ((k : Int) - 1) ∧ k ≤ h ∧ k ≤ g ∧ Hid (dj.size = d.size) ∧ Hid (LiesU wr blk dj) ∧ Hid (w.grownBy wr (some blk)) ∧ Hid (heapPop ltN a k dj = heapPop ltN a h dk))
      case atStart => exact ⟨h, dk, by have := unhide HH; congr 1; omega, Nat.le_refl _, Nat.le_refl _, hsk, hLk, hGk, hide rfl⟩
      case round =>
        obtain ⟨k, dj, hs9, hkv, hg, hsj, hLj, hGj, hOj⟩ := hrel
        cases k with
        | succ m =>
          have e9 : (((m + 1 : Nat) : Int) - 1) = (m : Int) := by omega
          rw [e9] at hs9
          subst hs9
          clear e9
          have hds := unhide hsj
          have hhh := unhide HH
          have hlt1 : a < dj.size := by omega
          have hlt2 : a + m < dj.size := by omega
          have HC := hide (fun X hX => sift78 blk cap 0 m a (swp dj a (a + m)) X hX (by omega) (by rw [swp_size]; omega) (by rw [swp_size]; omega))
          rw [swp_size, hds] at HC
          obtain ⟨c1, f1⟩ := (unhide hLj).cell a hlt1
          obtain ⟨c2, f2⟩ := (unhide hLj).cell (a + m) hlt2
          have HSw := hide (fun n => ((unhide hLj).drew n).swap a (a + m) hlt1 hlt2)
          have y1 : IntKind.i64.wrap ((m : Int) - 1) = (m : Int) - 1 := by rw [IntKind.wrap_i64]; omega
          have y2 : (0 : Int) ≤ m := by omega
          have y3 : IntKind.i64.wrap ((a : Int) + m) = (a : Int) + m := by rw [IntKind.wrap_i64]; omega
          have y4 : ((a : Int) + m).toNat = a + m := by omega
          have y5 : (a : Int) + m < d.size := by omega
          have y6 : (0 : Int) ≤ (a : Int) + m := by omega
          have y7 : (a : Int) < d.size := by omega
          clear hds hhh hlt1 hlt2
          by_cases hm0 : m = 0
          · subst hm0
            simp only [Nat.add_zero] at c2 f2 HSw
            generalize dj[a]! = x at *
            go_wp2_with fail
            go_region
            all_goals go_wp2_with fail
            refine (unhide HC (((wr.setCell ⟨blk, a, none⟩ (.int .u32 (x : Nat))).setCell ⟨blk, a, none⟩ (.int .u32 (x : Nat))).drew) (LiesU.grown (unhide HSw 0) rfl)).mono ?_
            rintro e w1 ⟨rfl, hL1, hG1⟩
            have HL1 := hide hL1
            have g0 := gb_trans (unhide hGj) (gb_swap wr blk a a (.int .u32 (x : Nat)) (.int .u32 (x : Nat)))
            have HG1 := hide (gb_trans g0 ⟨hG1.os, hG1.tape, hG1.output, hG1.size, hG1.block⟩)
            clear hL1 hG1 g0
            go_wp2
            go_roundg 0
            case measure => omega
            case rel => exact ⟨0, siftDown ltN 0 a 0 (swp dj a (a + 0)), rfl, by omega, Nat.le_refl _, hide (by rw [sd_size 0 a _ _ _ (Nat.le_refl _), swp_size]; exact unhide hsj), HL1, HG1, hide (by rw [← unhide hOj]; rfl)⟩
          · have n1 : ¬ a + m = a := by omega
            have n2 : ¬ a = a + m := by omega
            generalize dj[a]! = x at *
            generalize dj[a + m]! = y at *
            go_wp2_with fail
            go_region
            all_goals go_wp2_with fail
            refine (unhide HC _ (unhide HSw _)).mono ?_
            rintro e w1 ⟨rfl, hL1, hG1⟩
            have HL1 := hide hL1
            have HG1 := hide (gb_trans (gb_trans (gb_drew (unhide hGj) _) (gb_swap _ _ _ _ _ _)) hG1)
            clear hL1 hG1
            go_wp2
            go_roundg m
            case measure => omega
            case rel => exact ⟨m, siftDown ltN m a 0 (swp dj a (a + m)), rfl, by omega, Nat.le_refl _, hide (by rw [sd_size m a _ _ _ (Nat.le_refl _), swp_size]; exact unhide hsj), HL1, HG1, hide (by rw [← unhide hOj]; rfl)⟩
        | zero =>
          have e9 : (((0 : Nat) : Int) - 1) = -1 := by omega
          rw [e9] at hs9
          subst hs9
          clear e9
          go_wp2
          go_end0
          refine ⟨rfl, ?_, unhide hGj⟩
          rw [unhide HD, ← unhide HOk, ← unhide hOj]
          exact unhide hLj
end Go.Proofs.YtmemceindohklaaDoor

/-! Kf -/
namespace Go.Proofs.YtmemceindohklaaDoor
open Go Go.Proofs Go.RowKit Go.Sort
set_option linter.unusedSimpArgs false
set_option linter.unusedVariables false
theorem su_go (p : Nat → Bool) (d : Array Nat) (j i : Nat) (h : i ≤ j) (hp : p d[i]! = true) : scanUp p d j i = scanUp p d j (i + 1) := by
  rw [scanUp, if_pos (by simp [h, hp])]
theorem su_stop (p : Nat → Bool) (d : Array Nat) (j i : Nat) (h : ¬ i ≤ j ∨ p d[i]! = false) : scanUp p d j i = i := by
  rw [scanUp, if_neg]
  rcases h with h | h
  · simp [h]
  · simp [h]
theorem sdn_go (p : Nat → Bool) (d : Array Nat) (i j : Nat) (h : i ≤ j) (h0 : 0 < i) (hp : p d[j]! = true) : scanDown p d i j = scanDown p d i (j - 1) := by
  cases j with
  | zero => omega
  | succ j => rw [scanDown, if_pos (by simp [h, hp])]; rfl
theorem sdn_stop (p : Nat → Bool) (d : Array Nat) (i j : Nat) (h : ¬ i ≤ j ∨ p d[j]! = false) : scanDown p d i j = j := by
  cases j with
  | zero => rfl
  | succ j =>
    rw [scanDown, if_neg]
    rcases h with h | h
    · simp [h]
    · simp [h]
theorem su_ge (p : Nat → Bool) (d : Array Nat) (j : Nat) : ∀ (n i : Nat), j + 1 - i ≤ n → i ≤ scanUp p d j i ∧ (i ≤ j + 1 → scanUp p d j i ≤ j + 1) := by
  intro n
  induction n with
  | zero => intro i h; rw [su_stop p d j i (.inl (by omega))]; omega
  | succ n ih =>
    intro i h
    by_cases hc : i ≤ j ∧ p d[i]! = true
    · rw [su_go p d j i hc.1 hc.2]
      have := ih (i + 1) (by omega)
      omega
    · rw [su_stop p d j i (by by_cases e : i ≤ j; exact .inr (by cases h : p d[i]!; rfl; exact absurd ⟨e, h⟩ hc); exact .inl e)]
      omega
theorem sdn_le (p : Nat → Bool) (d : Array Nat) (i : Nat) : ∀ j, scanDown p d i j ≤ j ∧ (i ≤ j + 1 → i ≤ scanDown p d i j + 1) := by
  intro j
  induction j with
  | zero => simp [scanDown]
  | succ j ih =>
    unfold scanDown
    split
    · rename_i h
      simp at h
      omega
    · omega
theorem pl_eq (a i j : Nat) (d : Array Nat) (i2 j2 : Nat) (h1 : scanUp (fun x => ltN x d[a]!) d j i = i2) (h2 : scanDown (fun x => !ltN x d[a]!) d i2 j = j2) :
    partLoop ltN a i j d = if i2 > j2 then (j2, d) else partLoop ltN a (i2 + 1) (j2 - 1) (swp d i2 j2) := by
  have g1 := (su_ge (fun x => ltN x d[a]!) d j _ i (Nat.le_refl _)).1
  have g2 := (sdn_le (fun x => !ltN x d[a]!) d i2 j).1
  rw [h1] at g1
  rw [h2] at g2
  rw [partLoop]
  simp only [h1, h2]
  split
  · rfl
  · rw [dif_pos (by omega)]
theorem pe_eq (a i j : Nat) (d : Array Nat) (i2 j2 : Nat) (h1 : scanUp (fun x => !ltN d[a]! x) d j i = i2) (h2 : scanDown (fun x => ltN d[a]! x) d i2 j = j2) :
    partEqLoop ltN a i j d = if i2 > j2 then (i2, d) else partEqLoop ltN a (i2 + 1) (j2 - 1) (swp d i2 j2) := by
  have g1 := (su_ge (fun x => !ltN d[a]! x) d j _ i (Nat.le_refl _)).1
  have g2 := (sdn_le (fun x => ltN d[a]! x) d i2 j).1
  rw [h1] at g1
  rw [h2] at g2
  rw [partEqLoop]
  simp only [h1, h2]
  split
  · rfl
  · rw [dif_pos (by omega)]
set_option maxHeartbeats 4000000 in
set_option maxRecDepth 100000 in
theorem parteq68 (blk cap a b p : Nat) (d : Array Nat) (w : World) (hL : LiesU w blk d) (hap : a ≤ p) (hpb : p < b) (hb : b ≤ d.size) (hsz : d.size ≤ 3000) :
    Calls Tryd.prog 64 #[.slice (some ⟨blk, 0, none⟩) d.size cap, .int .i64 a, .int .i64 b, .int .i64 p] w fun e w' => e = .returned (.int .i64 ((partitionEqual ltN d a b p).1 : Nat)) ∧ LiesU w' blk (partitionEqual ltN d a b p).2 ∧ w.grownBy w' (some blk) := by
  have HL := hide hL
  obtain ⟨c1, f1⟩ := hL.cell a (by omega)
  obtain ⟨c2, f2⟩ := hL.cell p (by omega)
  have HSw := hide (fun n => (hL.drew n).swap a p (by omega) (by omega))
  clear hL
  have z1 : (a : Int) < d.size := by omega
  have z2 : (p : Int) < d.size := by omega
  have z3 : IntKind.i64.wrap ((a : Int) + 1) = ((a + 1 : Nat) : Int) := by rw [IntKind.wrap_i64]; omega
  have z4 : IntKind.i64.wrap ((b : Int) - 1) = ((b - 1 : Nat) : Int) := by rw [IntKind.wrap_i64]; omega
  have HD : Hid (partitionEqual ltN d a b p = partEqLoop ltN a (a + 1) (b - 1) (swp d a p)) := hide rfl
  have HZ := hide (swp_size d a p)
  generalize partitionEqual ltN d a b p = res at *
  generalize swp d a p = d1 at *
  have hcase := Classical.em (a = p)
  rcases hcase with hne | hne
  all_goals
    first
    | (subst hne
       generalize d[a]! = x at *
       go_enter Tryd.func64, Tryd.ntmps64
       go_wp2_with fail
       go_region
       all_goals go_wp2_with fail
       obtain ⟨X, hX⟩ : ∃ X, X = ((w.setCell ⟨blk, a, none⟩ (.int .u32 (x : Nat))).setCell ⟨blk, a, none⟩ (.int .u32 (x : Nat))).drew := ⟨_, rfl⟩
       rw [← hX]
       have HLX : Hid (LiesU X blk d1) := hide (by rw [hX]; exact LiesU.grown (unhide HSw 0) rfl)
       have HGX : Hid (w.grownBy X (some blk)) := hide (by rw [hX]; exact (have g0 := gb_swap w blk a a _ _; ⟨g0.os, g0.tape, g0.output, g0.size, g0.block⟩))
       clear hX)
    | (have n1 : ¬ p = a := (by omega)
       generalize d[a]! = x at *
       generalize d[p]! = y at *
       go_enter Tryd.func64, Tryd.ntmps64
       go_wp2_with fail
       go_region
       all_goals go_wp2_with fail
       obtain ⟨X, hX⟩ : ∃ X, X = ((w.setCell ⟨blk, a, none⟩ (.int .u32 (y : Nat))).setCell ⟨blk, p, none⟩ (.int .u32 (x : Nat))).drew := ⟨_, rfl⟩
       rw [← hX]
       have HLX : Hid (LiesU X blk d1) := hide (by rw [hX]; exact LiesU.grown (unhide HSw 0) rfl)
       have HGX : Hid (w.grownBy X (some blk)) := hide (by rw [hX]; exact (have g0 := gb_swap w blk a p _ _; ⟨g0.os, g0.tape, g0.output, g0.size, g0.block⟩))
       clear hX)
    clear c1 c2 f1 f2 HSw
    go_loopg [9, 10] (d.size + 1) (fun g s9 s10 wr => ∃ (i j : Nat) (dk : Array Nat), s9 = .int .i64 i ∧ s10 = .int .i64 j ∧ a + 1 ≤ i ∧ i ≤ b ∧ j < b ∧ a ≤ j ∧ d.size + 1 - i ≤ g ∧ Hid (dk.size = d.size) ∧ Hid (LiesU wr blk dk) ∧ Hid (w.grownBy wr (some blk)) ∧ Hid (partEqLoop ltN a i j dk = res))
    case atStart => exact ⟨a + 1, b - 1, d1, by go_num, rfl, Nat.le_refl _, by omega, by omega, by omega, by omega, HZ, HLX, HGX, hide (unhide HD).symm⟩
    case round =>
      obtain ⟨i, j, dk, rfl, rfl, hai, hib, hjb, haj, hg, hsk, hLk, hGk, hOk⟩ := hrel
      obtain ⟨w0, hw0⟩ : ∃ w0, w0 = wr := ⟨wr, rfl⟩
      subst hw0
      go_wp2_with fail
      go_loopg [9] (d.size + 1) (fun g s wr => ∃ i2 : Nat, s = .int .i64 i2 ∧ i ≤ i2 ∧ i2 ≤ d.size ∧ (i2 ≤ j + 1 ∨ i2 = i) ∧ d.size + 1 - i2 ≤ g ∧ Hid (LiesU wr blk dk) ∧ Hid (w.grownBy wr (some blk)) ∧ Hid (scanUp (fun x => !ltN dk[a]! x) dk j i2 = scanUp (fun x => !ltN dk[a]! x) dk j i))
      case atStart => exact ⟨i, rfl, Nat.le_refl _, by omega, .inr rfl, by omega, hLk, hGk, hide rfl⟩
      case round =>
        obtain ⟨i2, rfl, hi1, hi2, hi3, hgi, hLi, hGi, hSi⟩ := hrel
        have hds := unhide hsk
        by_cases hcont : i2 ≤ j ∧ ltN dk[a]! dk[i2]! = false
        · obtain ⟨c1, f1⟩ := (unhide hLi).cell a (by omega)
          obtain ⟨c2, f2⟩ := (unhide hLi).cell i2 (by omega)
          have HE := hide (su_go (fun x => !ltN dk[a]! x) dk j i2 hcont.1 (by simp [hcont.2]))
          have HC := hide (less67 dk[a]! dk[i2]!)
          have y1 : (i2 : Int) ≤ j := by omega
          have y2 : (i2 : Int) < d.size := by omega
          have y3 : IntKind.i64.wrap ((i2 : Int) + 1) = ((i2 + 1 : Nat) : Int) := by rw [IntKind.wrap_i64]; omega
          rw [hcont.2] at HC
          have hle := hcont.1
          clear hds hcont
          generalize dk[a]! = pv at *
          generalize dk[i2]! = xv at *
          go_wp2_with fail
          go_quiet ((go_at_call 63; refine (unhide HC _).mono ?_; rintro e w9 ⟨rfl, rfl⟩; exact ⟨rfl, _, rfl⟩))
          go_wp2
          go_roundg (d.size + 1 - (i2 + 1))
          case measure => omega
          case rel => exact ⟨i2 + 1, by go_num, by omega, by omega, .inl (by omega), Nat.le_refl _, hide ((unhide hLi).grown rfl), hide ⟨(unhide hGi).os, (unhide hGi).tape, (unhide hGi).output, (unhide hGi).size, (unhide hGi).block⟩, hide (by rw [← unhide HE]; exact unhide hSi)⟩
        · have hstop : ¬ i2 ≤ j ∨ ltN dk[a]! dk[i2]! = !false := by
            by_cases e : i2 ≤ j
            · right
              cases h : ltN dk[a]! dk[i2]!
              all_goals first | rfl | exact absurd ⟨e, h⟩ hcont
            · exact .inl e
          have HSA := hide hstop
          have HI2 : Hid (scanUp (fun x => !ltN dk[a]! x) dk j i = i2) := hide (by rw [← unhide hSi]; exact su_stop _ _ _ _ (by rcases hstop with h | h; exact .inl h; exact .inr (by simp [h])))
          clear hstop hSi
          have hle := Classical.em (i2 ≤ j)
          rcases hle with hle | hle
          all_goals
            first
            | (obtain ⟨c1, f1⟩ := (unhide hLi).cell a (by omega)
               obtain ⟨c2, f2⟩ := (unhide hLi).cell i2 (by omega)
               have HC := hide (less67 dk[a]! dk[i2]!)
               have hr : ltN dk[a]! dk[i2]! = !false := (by rcases unhide HSA with h | h; exact absurd hle h; exact h)
               rw [hr] at HC
               have y1 : (i2 : Int) ≤ j := (by omega)
               have y2 : (i2 : Int) < d.size := (by omega)
               clear hds hcont hr
               generalize dk[a]! = pv at c1 HC
               generalize dk[i2]! = xv at c2 HC
               go_wp2_with fail
               go_quiet ((go_at_call 63; refine (unhide HC _).mono ?_; rintro e w9 ⟨rfl, rfl⟩; exact ⟨rfl, _, rfl⟩))
               clear HC c1 c2 f1 f2 y1 y2)
            | (have y0 : ¬ (i2 : Int) ≤ j := (by omega)
               clear hds hcont
               go_wp2_with fail
               have y1 : decide ((i2 : Int) ≤ j) = false := decide_eq_false (by omega)
               go_quiet (fail)
               clear y0 y1)
            obtain ⟨w1, hw1⟩ : ∃ w1, w1 = wr.drewN nq := ⟨_, rfl⟩
            have HL1 : Hid (LiesU w1 blk dk) := hide (by rw [hw1]; exact (unhide hLi).grown rfl)
            have HG1 : Hid (w.grownBy w1 (some blk)) := hide (by rw [hw1]; exact gb_drew (unhide hGi) _)
            rw [← hw1]
            clear hw1 hLi hGi
            go_wp2_with fail
            go_loopg [10] (d.size + 1) (fun g s wr => ∃ j2 : Nat, s = .int .i64 j2 ∧ j2 ≤ j ∧ (i2 ≤ j2 + 1 ∨ j2 = j) ∧ a ≤ j2 ∧ j2 ≤ g ∧ Hid (LiesU wr blk dk) ∧ Hid (w.grownBy wr (some blk)) ∧ Hid (scanDown (fun x => ltN dk[a]! x) dk i2 j2 = scanDown (fun x => ltN dk[a]! x) dk i2 j))
            case atStart => exact ⟨j, rfl, Nat.le_refl _, .inr rfl, by omega, by have := unhide hsk; omega, HL1, HG1, hide rfl⟩
            case round =>
              obtain ⟨j2, rfl, hj1, hj2, hj3, hgj, hLj, hGj, hSj⟩ := hrel
              have hds := unhide hsk
              by_cases hcont2 : i2 ≤ j2 ∧ ltN dk[a]! dk[j2]! = true
              · obtain ⟨c1, f1⟩ := (unhide hLj).cell a (by omega)
                obtain ⟨c2, f2⟩ := (unhide hLj).cell j2 (by omega)
                have HE := hide (sdn_go (fun x => ltN dk[a]! x) dk i2 j2 hcont2.1 (by omega) (by simp [hcont2.2]))
                have HC := hide (less67 dk[a]! dk[j2]!)
                have y1 : (i2 : Int) ≤ j2 := by omega
                have y2 : (j2 : Int) < d.size := by omega
                have y3 : IntKind.i64.wrap ((j2 : Int) - 1) = ((j2 - 1 : Nat) : Int) := by rw [IntKind.wrap_i64]; omega
                rw [hcont2.2] at HC
                have hle2 := hcont2.1
                clear hds hcont2
                generalize dk[a]! = pv at c1 HC
                generalize dk[j2]! = xv at c2 HC
                go_wp2_with fail
                go_quiet ((go_at_call 63; refine (unhide HC _).mono ?_; rintro e w9 ⟨rfl, rfl⟩; exact ⟨rfl, _, rfl⟩))
                go_wp2
                go_roundg (j2 - 1)
                case measure => omega
                case rel => exact ⟨j2 - 1, by go_num, by omega, .inl (by omega), by omega, Nat.le_refl _, hide ((unhide hLj).grown rfl), hide ⟨(unhide hGj).os, (unhide hGj).tape, (unhide hGj).output, (unhide hGj).size, (unhide hGj).block⟩, hide (by rw [← unhide HE]; exact unhide hSj)⟩
              · have hstop2 : ¬ i2 ≤ j2 ∨ ltN dk[a]! dk[j2]! = !true := by
                  by_cases e : i2 ≤ j2
                  · right
                    cases h : ltN dk[a]! dk[j2]!
                    all_goals first | rfl | exact absurd ⟨e, h⟩ hcont2
                  · exact .inl e
                have HJ2 : Hid (scanDown (fun x => ltN dk[a]! x) dk i2 j = j2) := hide (by rw [← unhide hSj]; exact sdn_stop _ _ _ _ (by rcases hstop2 with h | h; exact .inl h; exact .inr (by simp [h])))
                clear hSj
                by_cases hle2 : i2 ≤ j2
                · obtain ⟨c1, f1⟩ := (unhide hLj).cell a (by omega)
                  obtain ⟨c2, f2⟩ := (unhide hLj).cell j2 (by omega)
                  have hrB : ltN dk[a]! dk[j2]! = !true := by rcases hstop2 with h | h; exact absurd hle2 h; exact h
                  have hij : i2 ≠ j2 := by
                    intro e
                    rcases unhide HSA with h | h
                    · omega
                    · rw [e] at h
                      rw [hrB] at h
                      simp at h
                  have HC := hide (less67 dk[a]! dk[j2]!)
                  rw [hrB] at HC
                  have y1 : (i2 : Int) ≤ j2 := by omega
                  have y2 : (j2 : Int) < d.size := by omega
                  clear hcont2 hstop2 hrB
                  have HDS := hide hds
                  clear hds
                  generalize dk[a]! = pv at c1 HC
                  generalize hxv : dk[j2]! = xv at c2 HC
                  clear hxv
                  go_wp2_with fail
                  go_quiet ((go_at_call 63; refine (unhide HC _).mono ?_; rintro e w9 ⟨rfl, rfl⟩; exact ⟨rfl, _, rfl⟩))
                  clear HC c1 c2 f1 f2
                  have HLw : Hid (LiesU (wr.drewN nq) blk dk) := hide ((unhide hLj).grown rfl)
                  have HGw : Hid (w.grownBy (wr.drewN nq) (some blk)) := hide (gb_drew (unhide hGj) _)
                  obtain ⟨wx, hwx⟩ : ∃ wx, wx = wr.drewN nq := ⟨_, rfl⟩
                  rw [← hwx] at HLw HGw ⊢
                  clear hwx hLj hGj
                  have hds := unhide HDS
                  obtain ⟨c1, f1⟩ := (unhide HLw).cell i2 (by omega)
                  obtain ⟨c2, f2⟩ := (unhide HLw).cell j2 (by omega)
                  have HSw := hide (fun n => ((unhide HLw).drew n).swap i2 j2 (by omega) (by omega))
                  have HE := hide (pe_eq a i j dk i2 j2 (unhide HI2) (unhide HJ2))
                  rw [if_neg (by omega)] at HE
                  have y3 : (i2 : Int) < d.size := by omega
                  have y4 : IntKind.i64.wrap ((i2 : Int) + 1) = ((i2 + 1 : Nat) : Int) := by rw [IntKind.wrap_i64]; omega
                  have y5 : IntKind.i64.wrap ((j2 : Int) - 1) = ((j2 - 1 : Nat) : Int) := by rw [IntKind.wrap_i64]; omega
                  have n2 : ¬ j2 = i2 := fun e => hij e.symm
                  clear hds
                  generalize dk[i2]! = xv at *
                  generalize dk[j2]! = yv at *
                  first
                  | (exfalso; omega)
                  | (go_wp2_with fail
                     go_region
                     all_goals go_wp2
                     go_roundg (d.size + 1 - (i2 + 1))
                     case measure => omega
                     case rel => exact ⟨i2 + 1, j2 - 1, swp dk i2 j2, by go_num, by go_num, by omega, by omega, by omega, by omega, Nat.le_refl _, hide (by rw [swp_size]; exact unhide hsk), hide (LiesU.grown (unhide HSw 0) rfl), hide (have g0 := gb_trans (unhide HGw) (gb_swap wx blk i2 j2 _ _); ⟨g0.os, g0.tape, g0.output, g0.size, g0.block⟩), hide (by rw [← unhide HE]; exact unhide hOk)⟩)
                · have y0 : ¬ (i2 : Int) ≤ j2 := by omega
                  clear hcont2 hstop2
                  go_wp2_with fail
                  have y1 : decide ((i2 : Int) ≤ j2) = false := decide_eq_false (by omega)
                  go_quiet (fail)
                  have HLw : Hid (LiesU (wr.drewN nq) blk dk) := hide ((unhide hLj).grown rfl)
                  have HGw : Hid (w.grownBy (wr.drewN nq) (some blk)) := hide (gb_drew (unhide hGj) _)
                  obtain ⟨wx, hwx⟩ : ∃ wx, wx = wr.drewN nq := ⟨_, rfl⟩
                  rw [← hwx] at HLw HGw ⊢
                  clear hwx hLj hGj y1
                  have y2 : (j2 : Int) < i2 := by omega
                  have HE := hide (pe_eq a i j dk i2 j2 (unhide HI2) (unhide HJ2))
                  rw [if_pos (by omega)] at HE
                  go_wp2
                  go_ret
                  rw [← unhide hOk, unhide HE]
                  exact ⟨rfl, unhide HLw, unhide HGw⟩
end Go.Proofs.YtmemceindohklaaDoor
