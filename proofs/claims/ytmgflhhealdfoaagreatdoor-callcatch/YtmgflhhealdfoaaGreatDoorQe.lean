import Derived.Laws.Cover2
import Derived.Laws.FloatArith
import Derived.Shelf.Small.Wraps
import Derived.Shelf.LaysM
import Derived.Shelf.Strconv.Clone
import Derived.Test.YtmgflhhealdfoaaGreatDoorProg
set_option linter.all false
namespace Go.Proofs.YtmgflhhealdfoaaGreatDoor.FM
open Ieee
/-- Of the bits of a float: the size and the sign. -/
def sz (b : Nat) : Nat := b % 2 ^ 63
def ng (b : Nat) : Bool := b / 2 ^ 63 % 2 == 1
def INF : Nat := 0x7FF * 2 ^ 52
def isN (b : Nat) : Bool := decide (INF < sz b)
def pl (b : Nat) : Int := if ng b then -(sz b : Int) else (sz b : Int)

/-- What a rung stands for, in units of the least place. -/
def vl (r : Nat) : Nat := if r < 2 ^ 52 then r else (2 ^ 52 + r % 2 ^ 52) * 2 ^ (r / 2 ^ 52 - 1)

theorem signW : double.signWeight = 2 ^ 63 := by decide +kernel
theorem binD : double.binade = 2 ^ 52 := by decide +kernel
theorem infD : double.infRung = INF := by decide +kernel
theorem leastD : double.leastPlace = -1074 := by decide +kernel

theorem read_eq (b : Nat) : double.read b =
    if sz b < 2 ^ 52 then .number (ng b) (sz b) (-1074)
    else if sz b < INF then .number (ng b) (2 ^ 52 + sz b % 2 ^ 52) (-1074 + (sz b / 2 ^ 52 - 1 : Nat))
    else if sz b = INF then .infinity (ng b)
    else .nan (ng b) (sz b - INF) := by
  unfold Format.read
  rw [signW, binD, infD, leastD]
  rfl

theorem vl_step (r : Nat) : vl r < vl (r + 1) := by
  unfold vl
  split
  · split
    · omega
    · have : r + 1 = 2 ^ 52 := by omega
      rw [this]; simp; omega
  · rename_i h
    rw [if_neg (by omega)]
    by_cases hd : (r + 1) % 2 ^ 52 = 0
    · have e1 : r % 2 ^ 52 = 2 ^ 52 - 1 := by omega
      have e2 : (r + 1) / 2 ^ 52 = r / 2 ^ 52 + 1 := by omega
      have e3 : r / 2 ^ 52 + 1 - 1 = (r / 2 ^ 52 - 1) + 1 := by omega
      rw [hd, e1, e2, e3, Nat.pow_succ 2 (r / 2 ^ 52 - 1)]
      have : 0 < 2 ^ (r / 2 ^ 52 - 1) := Nat.two_pow_pos _
      rw [Nat.add_zero]
      have q : 2 ^ 52 * (2 ^ (r / 2 ^ 52 - 1) * 2) = (2 ^ 52 + 2 ^ 52) * 2 ^ (r / 2 ^ 52 - 1) := by rw [Nat.mul_comm _ 2, ← Nat.mul_assoc]
      rw [q]
      exact Nat.mul_lt_mul_of_pos_right (by omega) this
    · have e1 : (r + 1) % 2 ^ 52 = r % 2 ^ 52 + 1 := by omega
      have e2 : (r + 1) / 2 ^ 52 = r / 2 ^ 52 := by omega
      rw [e1, e2]
      have : 0 < 2 ^ (r / 2 ^ 52 - 1) := Nat.two_pow_pos _
      exact Nat.mul_lt_mul_of_pos_right (by omega) this

theorem vl_mono {r s : Nat} (h : r < s) : vl r < vl s := by
  induction s with
  | zero => omega
  | succ n ih =>
    by_cases e : r = n
    · rw [e]; exact vl_step n
    · exact Nat.lt_trans (ih (by omega)) (vl_step n)

theorem vl_lt_iff {r s : Nat} : vl r < vl s ↔ r < s := by
  constructor
  · intro h
    rcases Nat.lt_trichotomy r s with a | a | a
    · exact a
    · rw [a] at h; omega
    · have := vl_mono a; omega
  · exact vl_mono

theorem vl_inj {r s : Nat} : vl r = vl s ↔ r = s := by
  constructor
  · intro h
    rcases Nat.lt_trichotomy r s with a | a | a
    · have := vl_mono a; omega
    · exact a
    · have := vl_mono a; omega
  · intro h; rw [h]

/-- A finite word, read: a number whose size is vl. -/
theorem read_fin (b : Nat) (h : sz b < INF) : ∃ m : Nat, ∃ k : Nat, double.read b = .number (ng b) m (-1074 + (k : Int)) ∧ m * 2 ^ k = vl (sz b) := by
  rw [read_eq]
  by_cases h1 : sz b < 2 ^ 52
  · rw [if_pos h1]
    exact ⟨sz b, 0, by simp, by unfold vl; rw [if_pos h1]; simp⟩
  · rw [if_neg h1, if_pos h]
    exact ⟨_, _, rfl, by unfold vl; rw [if_neg h1]⟩

theorem read_inf (b : Nat) (h : sz b = INF) : double.read b = .infinity (ng b) := by
  rw [read_eq, h]; simp [INF]

theorem read_nan (b : Nat) (h : INF < sz b) : double.read b = .nan (ng b) (sz b - INF) := by
  rw [read_eq, if_neg (by unfold INF at h; omega), if_neg (by omega), if_neg (by omega)]

theorem cmp_mul (a b : Int) (p : Nat) (hp : 0 < p) : compare (a * p) (b * p) = compare a b := by
  have hp' : (0 : Int) < p := by omega
  rcases Int.lt_trichotomy a b with h | h | h
  · rw [Int.compare_eq_lt.2 h, Int.compare_eq_lt.2 (Int.mul_lt_mul_of_pos_right h hp')]
  · subst h; simp
  · rw [Int.compare_eq_gt.2 h, Int.compare_eq_gt.2 (Int.mul_lt_mul_of_pos_right h hp')]

def sgn (s : Bool) (n : Nat) : Int := if s then -(n : Int) else n

theorem cmp_sgn (s t : Bool) (a b : Nat) : compare (sgn s (vl a)) (sgn t (vl b)) = compare (sgn s a) (sgn t b) := by
  have z : vl 0 = 0 := by decide
  have m1 : ∀ x, x ≤ vl x := by
    intro x; induction x with
    | zero => omega
    | succ n ih => have := vl_step n; omega
  have key : ∀ x y : Int, ∀ x' y' : Int, (x < y ↔ x' < y') → (x = y ↔ x' = y') → compare x y = compare x' y' := by
    intro x y x' y' h1 h2
    rcases Int.lt_trichotomy x y with h | h | h
    · rw [Int.compare_eq_lt.2 h, Int.compare_eq_lt.2 (h1.1 h)]
    · rw [Int.compare_eq_eq.2 h, Int.compare_eq_eq.2 (h2.1 h)]
    · have : y' < x' := by
        rcases Int.lt_trichotomy x' y' with g | g | g
        · have := h1.2 g; omega
        · have := h2.2 g; omega
        · exact g
      rw [Int.compare_eq_gt.2 h, Int.compare_eq_gt.2 this]
  have h1 := @vl_lt_iff a b
  have h2 := @vl_lt_iff b a
  have h3 := @vl_inj a b
  have pa : 0 < vl a ↔ 0 < a := by rw [← z]; rw [vl_lt_iff, z]
  have pb : 0 < vl b ↔ 0 < b := by rw [← z]; rw [vl_lt_iff, z]
  apply key <;> cases s <;> cases t <;> simp only [sgn] <;> simp <;> omega

theorem order_eq (x y : Nat) : double.order x y = if isN x || isN y then none else some (compare (pl x) (pl y)) := by
  unfold Format.order
  have plx : ∀ b, pl b = sgn (ng b) (sz b) := fun b => rfl
  rw [plx, plx]
  unfold isN
  rcases Nat.lt_trichotomy (sz x) INF with hx | hx | hx
  · rcases Nat.lt_trichotomy (sz y) INF with hy | hy | hy
    · obtain ⟨m, k, e1, v1⟩ := read_fin x hx
      obtain ⟨n, l, e2, v2⟩ := read_fin y hy
      rw [e1, e2]
      have : ¬ INF < sz x := by omega
      have : ¬ INF < sz y := by omega
      simp only [*, decide_false, Bool.or_self, Bool.false_eq_true, if_false]
      rw [← cmp_sgn, ← v1, ← v2]
      unfold Datum.order
      simp only [Option.some.injEq]
      have sg : ∀ (s : Bool) (a u v : Nat), signed s a u * ((2 ^ v : Nat) : Int) = sgn s (a * 2 ^ (u + v)) := by
        intro s a u v
        unfold signed sgn
        rw [Nat.shiftLeft_eq, Nat.pow_add, ← Nat.mul_assoc]
        cases s <;> simp [Int.neg_mul]
      rcases Nat.le_total k l with h | h
      · have e : min (-1074 + (k : Int)) (-1074 + (l : Int)) = -1074 + k := by omega
        rw [e]
        have a1 : (-1074 + (k : Int) - (-1074 + k)).toNat = 0 := by omega
        have a2 : (-1074 + (l : Int) - (-1074 + k)).toNat = l - k := by omega
        rw [a1, a2, ← cmp_mul _ _ (2 ^ k) (Nat.two_pow_pos _), sg, sg]
        first | rw [Nat.zero_add, Nat.sub_add_cancel h]
      · have e : min (-1074 + (k : Int)) (-1074 + (l : Int)) = -1074 + l := by omega
        rw [e]
        have a1 : (-1074 + (k : Int) - (-1074 + l)).toNat = k - l := by omega
        have a2 : (-1074 + (l : Int) - (-1074 + l)).toNat = 0 := by omega
        rw [a1, a2, ← cmp_mul _ _ (2 ^ l) (Nat.two_pow_pos _), sg, sg]
        first | rw [Nat.zero_add, Nat.sub_add_cancel h]
    · obtain ⟨m, k, e1, v1⟩ := read_fin x hx
      rw [e1, read_inf y hy, hy]
      have : ¬ INF < sz x := by omega
      simp only [*, decide_false, Bool.or_self, Bool.false_eq_true, if_false, Nat.lt_irrefl]
      unfold Datum.order
      simp only [Option.some.injEq]
      cases ng y
      · rw [if_neg (by decide)]; symm; rw [Int.compare_eq_lt]; unfold sgn; simp only [Bool.false_eq_true, if_false]; split <;> omega
      · rw [if_pos (by decide)]; symm; rw [Int.compare_eq_gt]; unfold sgn; simp only [if_true]; split <;> omega
    · have : INF < sz y := hy
      obtain ⟨m, k, e1, v1⟩ := read_fin x hx
      rw [e1, read_nan y hy]
      simp [this, Datum.order]
  · rcases Nat.lt_trichotomy (sz y) INF with hy | hy | hy
    · obtain ⟨m, k, e1, v1⟩ := read_fin y hy
      rw [e1, read_inf x hx, hx]
      have : ¬ INF < sz y := by omega
      simp only [*, decide_false, Bool.or_self, Bool.false_eq_true, if_false, Nat.lt_irrefl]
      unfold Datum.order
      simp only [Option.some.injEq]
      cases ng x
      · rw [if_neg (by decide)]; symm; rw [Int.compare_eq_gt]; unfold sgn; simp only [Bool.false_eq_true, if_false]; split <;> omega
      · rw [if_pos (by decide)]; symm; rw [Int.compare_eq_lt]; unfold sgn; simp only [if_true]; split <;> omega
    · rw [read_inf x hx, read_inf y hy, hx, hy]
      simp only [decide_false, Bool.or_self, Bool.false_eq_true, if_false, Nat.lt_irrefl]
      unfold Datum.order
      cases ng x <;> cases ng y <;> decide
    · rw [read_inf x hx, read_nan y hy]
      simp [hy, Datum.order]
  · rw [read_nan x hx]
    simp [hx, Datum.order]

theorem pl_eqD (x y : Nat) (hx : x < 2 ^ 64) (hy : y < 2 ^ 64) : pl x = pl y ↔ (x = y ∨ (sz x = 0 ∧ sz y = 0)) := by
  unfold pl ng sz
  by_cases h1 : x / 2 ^ 63 % 2 = 1 <;> by_cases h2 : y / 2 ^ 63 % 2 = 1 <;> simp [h1, h2] <;> omega

theorem eqF (x y : Nat) (hx : x < 2 ^ 64) (hy : y < 2 ^ 64) : (double.order x y == some .eq) = (!isN x && !isN y && (decide (x = y) || (decide (sz x = 0) && decide (sz y = 0)))) := by
  rw [order_eq]
  have h := pl_eqD x y hx hy
  cases isN x <;> cases isN y <;> simp
  rw [Bool.eq_iff_iff]
  simp [h]

theorem nanF (x : Nat) : (double.order x x != some .eq) = isN x := by
  rw [order_eq]
  cases isN x <;> simp

end Go.Proofs.YtmgflhhealdfoaaGreatDoor.FM
/-
  THE SHELF's CONTRACTS for cmp.Compare at int and for internal/stringslite.Clone, laid at this program in plain words (by lay-plain.mjs).
-/
namespace Go.Proofs
open Go.Shelf
def Tryz.laysM316_ren : Go.Shelf.Ren := ⟨fun | 316 => 147 | n => n, fun | 9 => 9 | 3 => 3 | 4 => 4 | 37 => 153 | 0 => 0 | 127 => 197 | 5 => 5 | n => n, fun | n => n⟩
theorem Tryz.laysM316 : Go.Proofs.LaysM.n316 Tryz.prog Tryz.laysM316_ren := {
  mixed := by kernel_rfl
  f316 := Tryz.func147.trans (congrArg some (by kernel_rfl))
  t0 := Tryz.underlying0
  a0 := Tryz.isAgg0
  z0 := Tryz.sizeOf0
  v0 := Tryz.zeroValue0
  t3 := Tryz.underlying3
  a3 := Tryz.isAgg3
  z3 := Tryz.sizeOf3
  v3 := Tryz.zeroValue3
  t4 := Tryz.underlying4
  a4 := Tryz.isAgg4
  z4 := Tryz.sizeOf4
  v4 := Tryz.zeroValue4
  t9 := Tryz.underlying9
  a9 := Tryz.isAgg9
  z9 := Tryz.sizeOf9
  v9 := Tryz.zeroValue9
  t37 := Tryz.underlying153
  a37 := Tryz.isAgg153
  z37 := Tryz.sizeOf153
  v37 := Tryz.zeroValue153
  t127 := Tryz.underlying197
  a127 := Tryz.isAgg197
  z127 := Tryz.sizeOf197
  v127 := Tryz.zeroValue197
  t5 := Tryz.underlying5
  a5 := Tryz.isAgg5
  z5 := Tryz.sizeOf5
  v5 := Tryz.zeroValue5
  i0 := by kernel_rfl
  i3 := by kernel_rfl
  i4 := by kernel_rfl
  i5 := by kernel_rfl
  i9 := by kernel_rfl
  i37 := by kernel_rfl
  i127 := by kernel_rfl }
open Go.RowKit in
/-- internal/stringslite.Clone (what strings.Clone calls): "Clone returns a fresh copy of s.": THE SAME BYTES. Of what was there nothing has turned (a new row is laid, and frozen, where s is not empty). (LAID: no walk: one application.) -/
theorem Tryz.stringslite_Clone (s : ByteArray) (w : World) (hlim : s.size ≤ 281474976710656) :
    Calls Tryz.prog 147 #[.string s] w fun e w' => e = .returned (.string s) ∧ Below w.heap.size w w' := Any.stringslite_Clone Tryz.laysM316 s w hlim
end Go.Proofs
