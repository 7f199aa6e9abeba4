import Derived.Test.YthilnaeomkppaaaGreatFmtQc
import Derived.LoopTactic
import Derived.Laws.Cover2
import Derived.Laws.FloatArith
import Derived.Test.YthilnaeomkppaaaGreatFmtChecked
import Derived.WalkSpells
import Derived.WalkLawsBesides
import Derived.Laws.BitsAllLaws
import Derived.Shelf.Small.Wraps
import Derived.Shelf.LaysM
import Derived.Shelf.Strconv.Clone
set_option linter.all false
namespace Go.Proofs.YthilnaeomkppaaaGreatFmt
section
open Go.RowKit Go.Shelf
def strLen : Value → Nat
  | .string s => s.size
  | _ => 0
theorem tabs_below {w w' : World} (h : Lib.Utf8Tabs 4 5 w) (hb : Below w.heap.size w w') : Lib.Utf8Tabs 4 5 w' := Utf8Tabs_below h hb

theorem nums_extract (u : ByteArray) (n : Nat) : nums (u.extract n u.size) = (nums u).drop n := by
  unfold nums
  rw [ByteArray.data_extract, Array.toList_extract, ← List.map_drop]
  congr 1
  rw [List.extract_eq_take_drop, List.take_of_length_le]
  rw [List.length_drop]; exact Nat.le_refl _
theorem size_extract (u : ByteArray) (n : Nat) : (u.extract n u.size).size = u.size - n := by
  rw [← nums_len, nums_extract, List.length_drop, nums_len]
set_option maxHeartbeats 400000 in
theorem valid_any (s : ByteArray) (w : World) (hT : Lib.Utf8Tabs 4 5 w) : Calls Tryz.prog 80 #[.string s] w fun e w' => e = .returned (.bool (M.valid false (nums s))) ∧ Below w.heap.size w w' := by
  have HT := hide hT; clear hT
  go_enter Tryz.func80, Tryz.ntmps80
  go_wp2
  go_loopw [0, 3] (fun t b wr => ∃ (u : ByteArray) (h : Bool), t = .string u ∧ b = .bool h ∧ M.valid false (nums s) = M.valid h (nums u) ∧ Below w.heap.size w wr) (fun t _ _ => strLen t)
  case atStart => exact ⟨s, false, rfl, rfl, rfl, Below.refl _ _⟩
  case round =>
    obtain ⟨u, h, rfl, rfl, hv, hB⟩ := hrel
    have HV := hide hv; clear hv
    have hNE : nums u = [] ↔ u.size = 0 := by rw [← nums_len, List.length_eq_zero_iff]
    cases hE : u.toList.isEmpty with
    | true =>
      have hz : nums u = [] := by
        rw [hNE, ByteArray.size, ← Array.length_toList, List.length_eq_zero_iff]
        simpa [Lib.toList_data] using hE
      go_wp2
      go_ret
      refine ⟨?_, hB⟩
      rw [unhide HV, hz]; rfl
    | false =>
      have hz : nums u ≠ [] := by
        intro e
        rw [hNE, ByteArray.size, ← Array.length_toList, List.length_eq_zero_iff] at e
        simp [Lib.toList_data, e] at hE
      have hst := M.valid_step h (nums u) hz
      have hinv := M.dec_inv (nums u) (nums_lt u)
      have hdc := decode_any u wr (tabs_below (unhide HT) hB)
      generalize M.dec (nums u) = p at *
      obtain ⟨c, n⟩ := p
      dsimp only at *
      have HD := hide hdc; clear hdc
      have HS := hide hst; clear hst
      have HN := hide hNE; clear hNE
      have HZ := hide hz; clear hz
      by_cases hn : n = 0
      · have HI := hide hinv; clear hinv
        have hn' : ((n : Int) == 0) = true := by rw [beq_iff_eq]; omega
        go_wp2_with fail
        refine (unhide HD).mono ?_
        rintro e w1 ⟨rfl, hb⟩
        go_wp2
        go_ret
        refine ⟨?_, hB.trans (hb.mono hB.size)⟩
        rw [unhide HV, unhide HS, hn]; rfl
      · obtain ⟨d1, d2, d3⟩ := hinv hn
        have hn' : ((n : Int) == 0) = false := by rw [beq_eq_false_iff_ne]; omega
        have hnle : n ≤ u.size := by
          have := congrArg List.length d2
          rw [List.length_append, nums_len] at this; omega
        have h1n : (1 : Int) ≤ (n : Int) := by omega
        have hnle' : (n : Int) ≤ (u.size : Int) := by omega
        have D2 := hide d2; clear d2
        have D3 := hide d3; clear d3
        clear hinv
        have hsz := size_extract u n
        have HZ2 := hide hsz; clear hsz
        have fin : ∀ (w2 : World), Below wr.heap.size wr w2 → (decide (n = 0) || h && M.isLo c) = false → (∃ (u_1 : ByteArray) (h : Bool),
            Value.string (u.extract n u.size) = Value.string u_1 ∧ Value.bool (hiZ ↑c) = Value.bool h ∧ M.valid false (nums s) = M.valid h (nums u_1) ∧ Below w.heap.size w w2) ∧
            strLen (Value.string (u.extract n u.size)) < strLen (Value.string u) := by
          intro w2 hb he
          refine ⟨⟨u.extract n u.size, M.isHi c, rfl, by rw [hiZ_nat], ?_, hB.trans (hb.mono hB.size)⟩, ?_⟩
          · rw [unhide HV, unhide HS, he, nums_extract]; simp
          · simp only [strLen]; rw [unhide HZ2]; omega
        have FIN := hide fin; clear fin
        cases h with
        | true =>
          go_wp2_with fail
          refine (unhide HD).mono ?_
          rintro e w1 ⟨rfl, hb⟩
          go_wp2_with fail
          refine (isLow_any _ _).mono ?_
          rintro e w2 ⟨rfl, rfl⟩
          rw [loZ_nat]
          cases hl : M.isLo c with
          | true =>
            go_wp2
            go_ret
            refine ⟨?_, hB.trans (hb.mono hB.size)⟩
            rw [unhide HV, unhide HS, hl]; simp
          | false =>
            go_wp2_with fail
            refine (isHigh_any _ _).mono ?_
            rintro e w3 ⟨rfl, rfl⟩
            go_wp2
            exact unhide FIN _ hb (by simp [hl, hn])
        | false =>
          go_wp2_with fail
          refine (unhide HD).mono ?_
          rintro e w1 ⟨rfl, hb⟩
          go_wp2_with fail
          refine (isHigh_any _ _).mono ?_
          rintro e w2 ⟨rfl, rfl⟩
          go_wp2
          exact unhide FIN _ hb (by simp [hn])
end
end Go.Proofs.YthilnaeomkppaaaGreatFmt
namespace Go.Proofs.YthilnaeomkppaaaGreatFmt.FM
open Ieee
/-- Of the bits of a float: the size and the sign. -/
def sz (b : Nat) : Nat := b % 2 ^ 63
def ng (b : Nat) : Bool := b / 2 ^ 63 % 2 == 1
def INF : Nat := 0x7FF * 2 ^ 52
def isN (b : Nat) : Bool := decide (INF < sz b)
def pl (b : Nat) : Int := if ng b then -(sz b : Int) else (sz b : Int)

/-- What a rung stands for, in units of the least place. -/
def vl (r : Nat) : Nat := if r < 2 ^ 52 then r else (2 ^ 52 + r % 2 ^ 52) * 2 ^ (r / 2 ^ 52 - 1)

theorem signW : double.signWeight = 2 ^ 63 := by decide +kernel
theorem binD : double.binade = 2 ^ 52 := by decide +kernel
theorem infD : double.infRung = INF := by decide +kernel
theorem leastD : double.leastPlace = -1074 := by decide +kernel

theorem read_eq (b : Nat) : double.read b =
    if sz b < 2 ^ 52 then .number (ng b) (sz b) (-1074)
    else if sz b < INF then .number (ng b) (2 ^ 52 + sz b % 2 ^ 52) (-1074 + (sz b / 2 ^ 52 - 1 : Nat))
    else if sz b = INF then .infinity (ng b)
    else .nan (ng b) (sz b - INF) := by
  unfold Format.read
  rw [signW, binD, infD, leastD]
  rfl

theorem vl_step (r : Nat) : vl r < vl (r + 1) := by
  unfold vl
  split
  · split
    · omega
    · have : r + 1 = 2 ^ 52 := by omega
      rw [this]; simp; omega
  · rename_i h
    rw [if_neg (by omega)]
    by_cases hd : (r + 1) % 2 ^ 52 = 0
    · have e1 : r % 2 ^ 52 = 2 ^ 52 - 1 := by omega
      have e2 : (r + 1) / 2 ^ 52 = r / 2 ^ 52 + 1 := by omega
      have e3 : r / 2 ^ 52 + 1 - 1 = (r / 2 ^ 52 - 1) + 1 := by omega
      rw [hd, e1, e2, e3, Nat.pow_succ 2 (r / 2 ^ 52 - 1)]
      have : 0 < 2 ^ (r / 2 ^ 52 - 1) := Nat.two_pow_pos _
      rw [Nat.add_zero]
      have q : 2 ^ 52 * (2 ^ (r / 2 ^ 52 - 1) * 2) = (2 ^ 52 + 2 ^ 52) * 2 ^ (r / 2 ^ 52 - 1) := by rw [Nat.mul_comm _ 2, ← Nat.mul_assoc]
      rw [q]
      exact Nat.mul_lt_mul_of_pos_right (by omega) this
    · have e1 : (r + 1) % 2 ^ 52 = r % 2 ^ 52 + 1 := by omega
      have e2 : (r + 1) / 2 ^ 52 = r / 2 ^ 52 := by omega
      rw [e1, e2]
      have : 0 < 2 ^ (r / 2 ^ 52 - 1) := Nat.two_pow_pos _
      exact Nat.mul_lt_mul_of_pos_right (by omega) this

theorem vl_mono {r s : Nat} (h : r < s) : vl r < vl s := by
  induction s with
  | zero => omega
  | succ n ih =>
    by_cases e : r = n
    · rw [e]; exact vl_step n
    · exact Nat.lt_trans (ih (by omega)) (vl_step n)

theorem vl_lt_iff {r s : Nat} : vl r < vl s ↔ r < s := by
  constructor
  · intro h
    rcases Nat.lt_trichotomy r s with a | a | a
    · exact a
    · rw [a] at h; omega
    · have := vl_mono a; omega
  · exact vl_mono

theorem vl_inj {r s : Nat} : vl r = vl s ↔ r = s := by
  constructor
  · intro h
    rcases Nat.lt_trichotomy r s with a | a | a
    · have := vl_mono a; omega
    · exact a
    · have := vl_mono a; omega
  · intro h; rw [h]

/-- A finite word, read: a number whose size is vl. -/
theorem read_fin (b : Nat) (h : sz b < INF) : ∃ m : Nat, ∃ k : Nat, double.read b = .number (ng b) m (-1074 + (k : Int)) ∧ m * 2 ^ k = vl (sz b) := by
  rw [read_eq]
  by_cases h1 : sz b < 2 ^ 52
  · rw [if_pos h1]
    exact ⟨sz b, 0, by simp, by unfold vl; rw [if_pos h1]; simp⟩
  · rw [if_neg h1, if_pos h]
    exact ⟨_, _, rfl, by unfold vl; rw [if_neg h1]⟩

theorem read_inf (b : Nat) (h : sz b = INF) : double.read b = .infinity (ng b) := by
  rw [read_eq, h]; simp [INF]

theorem read_nan (b : Nat) (h : INF < sz b) : double.read b = .nan (ng b) (sz b - INF) := by
  rw [read_eq, if_neg (by unfold INF at h; omega), if_neg (by omega), if_neg (by omega)]

theorem cmp_mul (a b : Int) (p : Nat) (hp : 0 < p) : compare (a * p) (b * p) = compare a b := by
  have hp' : (0 : Int) < p := by omega
  rcases Int.lt_trichotomy a b with h | h | h
  · rw [Int.compare_eq_lt.2 h, Int.compare_eq_lt.2 (Int.mul_lt_mul_of_pos_right h hp')]
  · subst h; simp
  · rw [Int.compare_eq_gt.2 h, Int.compare_eq_gt.2 (Int.mul_lt_mul_of_pos_right h hp')]

def sgn (s : Bool) (n : Nat) : Int := if s then -(n : Int) else n

theorem cmp_sgn (s t : Bool) (a b : Nat) : compare (sgn s (vl a)) (sgn t (vl b)) = compare (sgn s a) (sgn t b) := by
  have z : vl 0 = 0 := by decide
  have m1 : ∀ x, x ≤ vl x := by
    intro x; induction x with
    | zero => omega
    | succ n ih => have := vl_step n; omega
  have key : ∀ x y : Int, ∀ x' y' : Int, (x < y ↔ x' < y') → (x = y ↔ x' = y') → compare x y = compare x' y' := by
    intro x y x' y' h1 h2
    rcases Int.lt_trichotomy x y with h | h | h
    · rw [Int.compare_eq_lt.2 h, Int.compare_eq_lt.2 (h1.1 h)]
    · rw [Int.compare_eq_eq.2 h, Int.compare_eq_eq.2 (h2.1 h)]
    · have : y' < x' := by
        rcases Int.lt_trichotomy x' y' with g | g | g
        · have := h1.2 g; omega
        · have := h2.2 g; omega
        · exact g
      rw [Int.compare_eq_gt.2 h, Int.compare_eq_gt.2 this]
  have h1 := @vl_lt_iff a b
  have h2 := @vl_lt_iff b a
  have h3 := @vl_inj a b
  have pa : 0 < vl a ↔ 0 < a := by rw [← z]; rw [vl_lt_iff, z]
  have pb : 0 < vl b ↔ 0 < b := by rw [← z]; rw [vl_lt_iff, z]
  apply key <;> cases s <;> cases t <;> simp only [sgn] <;> simp <;> omega

theorem order_eq (x y : Nat) : double.order x y = if isN x || isN y then none else some (compare (pl x) (pl y)) := by
  unfold Format.order
  have plx : ∀ b, pl b = sgn (ng b) (sz b) := fun b => rfl
  rw [plx, plx]
  unfold isN
  rcases Nat.lt_trichotomy (sz x) INF with hx | hx | hx
  · rcases Nat.lt_trichotomy (sz y) INF with hy | hy | hy
    · obtain ⟨m, k, e1, v1⟩ := read_fin x hx
      obtain ⟨n, l, e2, v2⟩ := read_fin y hy
      rw [e1, e2]
      have : ¬ INF < sz x := by omega
      have : ¬ INF < sz y := by omega
      simp only [*, decide_false, Bool.or_self, Bool.false_eq_true, if_false]
      rw [← cmp_sgn, ← v1, ← v2]
      unfold Datum.order
      simp only [Option.some.injEq]
      have sg : ∀ (s : Bool) (a u v : Nat), signed s a u * ((2 ^ v : Nat) : Int) = sgn s (a * 2 ^ (u + v)) := by
        intro s a u v
        unfold signed sgn
        rw [Nat.shiftLeft_eq, Nat.pow_add, ← Nat.mul_assoc]
        cases s <;> simp [Int.neg_mul]
      rcases Nat.le_total k l with h | h
      · have e : min (-1074 + (k : Int)) (-1074 + (l : Int)) = -1074 + k := by omega
        rw [e]
        have a1 : (-1074 + (k : Int) - (-1074 + k)).toNat = 0 := by omega
        have a2 : (-1074 + (l : Int) - (-1074 + k)).toNat = l - k := by omega
        rw [a1, a2, ← cmp_mul _ _ (2 ^ k) (Nat.two_pow_pos _), sg, sg]
        first | rw [Nat.zero_add, Nat.sub_add_cancel h]
      · have e : min (-1074 + (k : Int)) (-1074 + (l : Int)) = -1074 + l := by omega
        rw [e]
        have a1 : (-1074 + (k : Int) - (-1074 + l)).toNat = k - l := by omega
        have a2 : (-1074 + (l : Int) - (-1074 + l)).toNat = 0 := by omega
        rw [a1, a2, ← cmp_mul _ _ (2 ^ l) (Nat.two_pow_pos _), sg, sg]
        first | rw [Nat.zero_add, Nat.sub_add_cancel h]
    · obtain ⟨m, k, e1, v1⟩ := read_fin x hx
      rw [e1, read_inf y hy, hy]
      have : ¬ INF < sz x := by omega
      simp only [*, decide_false, Bool.or_self, Bool.false_eq_true, if_false, Nat.lt_irrefl]
      unfold Datum.order
      simp only [Option.some.injEq]
      cases ng y
      · rw [if_neg (by decide)]; symm; rw [Int.compare_eq_lt]; unfold sgn; simp only [Bool.false_eq_true, if_false]; split <;> omega
      · rw [if_pos (by decide)]; symm; rw [Int.compare_eq_gt]; unfold sgn; simp only [if_true]; split <;> omega
    · have : INF < sz y := hy
      obtain ⟨m, k, e1, v1⟩ := read_fin x hx
      rw [e1, read_nan y hy]
      simp [this, Datum.order]
  · rcases Nat.lt_trichotomy (sz y) INF with hy | hy | hy
    · obtain ⟨m, k, e1, v1⟩ := read_fin y hy
      rw [e1, read_inf x hx, hx]
      have : ¬ INF < sz y := by omega
      simp only [*, decide_false, Bool.or_self, Bool.false_eq_true, if_false, Nat.lt_irrefl]
      unfold Datum.order
      simp only [Option.some.injEq]
      cases ng x
      · rw [if_neg (by decide)]; symm; rw [Int.compare_eq_gt]; unfold sgn; simp only [Bool.false_eq_true, if_false]; split <;> omega
      · rw [if_pos (by decide)]; symm; rw [Int.compare_eq_lt]; unfold sgn; simp only [if_true]; split <;> omega
    · rw [read_inf x hx, read_inf y hy, hx, hy]
      simp only [decide_false, Bool.or_self, Bool.false_eq_true, if_false, Nat.lt_irrefl]
      unfold Datum.order
      cases ng x <;> cases ng y <;> decide
    · rw [read_inf x hx, read_nan y hy]
      simp [hy, Datum.order]
  · rw [read_nan x hx]
    simp [hx, Datum.order]

theorem pl_eqD (x y : Nat) (hx : x < 2 ^ 64) (hy : y < 2 ^ 64) : pl x = pl y ↔ (x = y ∨ (sz x = 0 ∧ sz y = 0)) := by
  unfold pl ng sz
  by_cases h1 : x / 2 ^ 63 % 2 = 1 <;> by_cases h2 : y / 2 ^ 63 % 2 = 1 <;> simp [h1, h2] <;> omega

theorem eqF (x y : Nat) (hx : x < 2 ^ 64) (hy : y < 2 ^ 64) : (double.order x y == some .eq) = (!isN x && !isN y && (decide (x = y) || (decide (sz x = 0) && decide (sz y = 0)))) := by
  rw [order_eq]
  have h := pl_eqD x y hx hy
  cases isN x <;> cases isN y <;> simp
  rw [Bool.eq_iff_iff]
  simp [h]

theorem ltF (x y : Nat) : (double.order x y == some .lt) = (!isN x && !isN y && decide (pl x < pl y)) := by
  rw [order_eq]
  cases isN x <;> cases isN y <;> simp
  rw [Bool.eq_iff_iff]
  simp [Int.compare_eq_lt]

theorem gtF (x y : Nat) : (double.order x y == some .gt) = (!isN x && !isN y && decide (pl y < pl x)) := by
  rw [order_eq]
  cases isN x <;> cases isN y <;> simp
  rw [Bool.eq_iff_iff]
  simp [Int.compare_eq_gt]

theorem nanF (x : Nat) : (double.order x x != some .eq) = isN x := by
  rw [order_eq]
  cases isN x <;> simp

theorem cut_exact (way : Toward) (neg : Bool) (a d : Nat) (ha : 0 < a) : way.cut neg (a * 2 ^ d) d = a := by
  have hl : d ≤ (a * 2 ^ d).log2 := by
    rw [Nat.le_log2 (by have := Nat.two_pow_pos d; exact Nat.ne_of_gt (Nat.mul_pos ha this))]
    exact Nat.le_mul_of_pos_left _ ha
  unfold Toward.cut
  have e : min d ((a * 2 ^ d).log2 + 2) = d := by omega
  simp only [e, Nat.one_shiftLeft]
  rw [Nat.mul_mod_left, Nat.mul_div_cancel _ (Nat.two_pow_pos d)]
  have h2 : 0 < 2 ^ d := Nat.two_pow_pos d
  cases way <;> simp

theorem log2_eq {n k : Nat} (h1 : 2 ^ k ≤ n) (h2 : n < 2 ^ (k + 1)) : n.log2 = k := by
  have hn : n ≠ 0 := by have := Nat.two_pow_pos k; omega
  have a := (Nat.le_log2 hn).2 h1
  have b := (Nat.log2_lt hn).2 h2
  omega

theorem log2_mul_pow {m k : Nat} (hm : m ≠ 0) : (m * 2 ^ k).log2 = m.log2 + k := by
  apply log2_eq
  · rw [Nat.pow_add]; exact Nat.mul_le_mul_right _ (Nat.log2_self_le hm)
  · rw [show m.log2 + k + 1 = m.log2 + 1 + k by omega, Nat.pow_add]
    exact Nat.mul_lt_mul_of_pos_right (Nat.lt_log2_self) (Nat.two_pow_pos _)

/-- A number that the format has is written as it is. -/
theorem nearest_exact (s : Bool) (r m k : Nat) (hr : r < INF) (h : m * 2 ^ k = vl r) : double.nearest s m (-1074 + (k : Int)) = double.word s r := by
  unfold Format.nearest
  by_cases hm : m = 0
  · rw [if_pos hm]
    have : r = 0 := by
      have : vl r = vl 0 := by rw [← h, hm]; simp [vl]
      exact vl_inj.1 this
    rw [this]
  · rw [if_neg hm, leastD, infD, binD]
    have hf : double.fractionBits = 52 := rfl
    rw [hf]
    have hL := @log2_mul_pow m k hm
    rw [h] at hL
    unfold vl at h hL
    by_cases h1 : r < 2 ^ 52
    · rw [if_pos h1] at h hL
      have hr0 : r ≠ 0 := by
        intro e; rw [e] at h
        rcases Nat.mul_eq_zero.1 h with a | a
        · exact hm a
        · have := Nat.two_pow_pos k; omega
      have hl : r.log2 < 52 := (Nat.log2_lt hr0).2 h1
      have e : max (-1074 + (k : Int) + m.log2 - 52) (-1074) = -1074 := by omega
      have e1 : (-1074 + (k : Int) - (-1074)).toNat = k := by omega
      have e2 : ((-1074 : Int) - (-1074 + (k : Int))).toNat = 0 := by omega
      simp only []
      rw [show ((52 : Nat) : Int) = 52 from rfl, e, e1, e2, Nat.shiftLeft_eq, h]
      have c := cut_exact .even s r 0 (by omega)
      rw [Nat.pow_zero, Nat.mul_one] at c
      rw [c]
      congr 1
      simp
      unfold INF; omega
    · rw [if_neg h1] at h hL
      have hM : 2 ^ 52 ≤ 2 ^ 52 + r % 2 ^ 52 ∧ 2 ^ 52 + r % 2 ^ 52 < 2 ^ 53 := by omega
      have hM2 : (2 ^ 52 + r % 2 ^ 52).log2 = 52 := log2_eq hM.1 hM.2
      rw [log2_mul_pow (by omega), hM2] at hL
      have hq : r / 2 ^ 52 - 1 + 1 = r / 2 ^ 52 := by omega
      have hrr : (r / 2 ^ 52) * 2 ^ 52 + r % 2 ^ 52 = r := by omega
      generalize hqd : r / 2 ^ 52 - 1 = q at *
      generalize hMd : 2 ^ 52 + r % 2 ^ 52 = M at *
      have e : max (-1074 + (k : Int) + m.log2 - 52) (-1074) = -1074 + q := by omega
      simp only []
      rw [show ((52 : Nat) : Int) = 52 from rfl, e]
      have key : Toward.even.cut s (m <<< (-1074 + (k : Int) - (-1074 + q)).toNat) ((-1074 + (q : Int)) - (-1074 + (k : Int))).toNat = M := by
        rcases Nat.le_total q k with hk | hk
        · rw [show (-1074 + (k : Int) - (-1074 + q)).toNat = k - q by omega, show ((-1074 + (q : Int)) - (-1074 + (k : Int))).toNat = 0 by omega, Nat.shiftLeft_eq]
          have : m * 2 ^ (k - q) = M := by
            have h3 : m * 2 ^ (k - q) * 2 ^ q = M * 2 ^ q := by rw [Nat.mul_assoc, ← Nat.pow_add, Nat.sub_add_cancel hk, h]
            exact Nat.eq_of_mul_eq_mul_right (Nat.two_pow_pos q) h3
          rw [this]
          have c := cut_exact .even s M 0 (by omega)
          rwa [Nat.pow_zero, Nat.mul_one] at c
        · rw [show (-1074 + (k : Int) - (-1074 + q)).toNat = 0 by omega, show ((-1074 + (q : Int)) - (-1074 + (k : Int))).toNat = q - k by omega, Nat.shiftLeft_zero]
          have : m = M * 2 ^ (q - k) := by
            have h3 : m * 2 ^ k = M * 2 ^ (q - k) * 2 ^ k := by rw [Nat.mul_assoc, ← Nat.pow_add, Nat.sub_add_cancel hk, h]
            exact Nat.eq_of_mul_eq_mul_right (Nat.two_pow_pos k) h3
          rw [this]
          exact cut_exact .even s M (q - k) (by omega)
      rw [key]
      congr 1
      rw [show (-1074 + (q : Int) - (-1074)).toNat = q by omega]
      have : q * 2 ^ 52 + M = r := by
        rw [← hMd, ← Nat.add_assoc, ← Nat.succ_mul, Nat.succ_eq_add_one, hq]; exact hrr
      rw [this]
      unfold INF at *; omega
end Go.Proofs.YthilnaeomkppaaaGreatFmt.FM
namespace Go.Proofs.YthilnaeomkppaaaGreatFmt
section
open Go.RowKit FM
theorem bits_run (b : Nat) (w : World) : (callFunc 59 #[.float .f64 b]).run Tryz.prog w = .ok (.value (.int .u64 (b : Int))) w := by
  rw [run_callFunc_extern Tryz.func59 (by kernel_rfl) (by kernel_rfl) (by kernel_rfl) (e := Extern.MathFloatBits.float64bits) (by kernel_rfl)]; rfl
attribute [local go_sem] bits_run
theorem rb {a b : Bool} (h : a = b) : Ending.returned (.bool a) = Ending.returned (.bool b) := by rw [h]
theorem isnan_any (b : Nat) (w : World) : Calls Tryz.prog 106 #[.float .f64 b] w fun e w' => e = .returned (.bool (isN b)) ∧ w' = w := by
  go_enter Tryz.func106, Tryz.ntmps106
  go_wp2
  go_ret
  exact ⟨by rw [← nanF]; rfl, rfl⟩
def sameV (x y : Nat) : Bool := (isN x && isN y) || decide (x = y)
def same0V (x y : Nat) : Bool := sameV x y || (decide (sz x = 0) && decide (sz y = 0))
def equalV (x y : Nat) : Bool := !isN x && !isN y && same0V x y
theorem fo (x y : Nat) : FloatKind.f64.format.order x y = Ieee.double.order x y := rfl
theorem sz0_nan {b : Nat} (h : sz b = 0) : isN b = false := by
  unfold isN; rw [h]; decide

theorem same_any (x y : Nat) (w : World) : Calls Tryz.prog 104 #[.float .f64 x, .float .f64 y] w fun e w' => e = .returned (.bool (sameV x y)) ∧ w' = w := by
  cases hx : isN x
  · cases hy : isN y
    · go_enter Tryz.func104, Tryz.ntmps104
      go_wp2_with fail
      refine (isnan_any x _).mono ?_
      rintro e w' ⟨rfl, rfl⟩
      rw [hx]
      go_wp2_with fail
      refine (isnan_any y _).mono ?_
      rintro e w' ⟨rfl, rfl⟩
      rw [hy]
      go_wp2
      go_ret
      refine ⟨rb ?_, rfl⟩
      unfold sameV
      rw [hx, hy, Bool.eq_iff_iff]
      simp
      omega
    · go_enter Tryz.func104, Tryz.ntmps104
      go_wp2_with fail
      refine (isnan_any x _).mono ?_
      rintro e w' ⟨rfl, rfl⟩
      rw [hx]
      go_wp2_with fail
      refine (isnan_any y _).mono ?_
      rintro e w' ⟨rfl, rfl⟩
      rw [hy]
      go_wp2_with fail
      refine (isnan_any x _).mono ?_
      rintro e w' ⟨rfl, rfl⟩
      rw [hx]
      go_wp2
      go_ret
      refine ⟨rb ?_, rfl⟩
      unfold sameV
      have hne : x ≠ y := fun e => by rw [e, hy] at hx; cases hx
      simp [hx, hne]
  · cases hy : isN y
    · go_enter Tryz.func104, Tryz.ntmps104
      go_wp2_with fail
      refine (isnan_any x _).mono ?_
      rintro e w' ⟨rfl, rfl⟩
      rw [hx]
      go_wp2_with fail
      refine (isnan_any x _).mono ?_
      rintro e w' ⟨rfl, rfl⟩
      rw [hx]
      go_wp2_with fail
      refine (isnan_any y _).mono ?_
      rintro e w' ⟨rfl, rfl⟩
      rw [hy]
      go_wp2
      go_ret
      refine ⟨rb ?_, rfl⟩
      unfold sameV
      have hne : x ≠ y := fun e => by rw [e, hy] at hx; cases hx
      simp [hy, hne]
    · go_enter Tryz.func104, Tryz.ntmps104
      go_wp2_with fail
      refine (isnan_any x _).mono ?_
      rintro e w' ⟨rfl, rfl⟩
      rw [hx]
      go_wp2_with fail
      refine (isnan_any x _).mono ?_
      rintro e w' ⟨rfl, rfl⟩
      rw [hx]
      go_wp2_with fail
      refine (isnan_any y _).mono ?_
      rintro e w' ⟨rfl, rfl⟩
      rw [hy]
      go_wp2
      go_ret
      refine ⟨rb ?_, rfl⟩
      simp [sameV, hx, hy]
theorem eq_order (x y : Nat) (hx64 : x < 2 ^ 64) (hy64 : y < 2 ^ 64) : (FloatKind.f64.format.order x y == some .eq) = equalV x y := by
  rw [fo, eqF x y hx64 hy64]
  unfold equalV same0V sameV
  cases isN x <;> cases isN y <;> simp
end
end Go.Proofs.YthilnaeomkppaaaGreatFmt
/-
  THE SHELF's CONTRACTS for cmp.Compare at int and for internal/stringslite.Clone, laid at this program in plain words (by lay-plain.mjs).
-/
namespace Go.Proofs
open Go.Shelf
def Tryz.laysM316_ren : Go.Shelf.Ren := ⟨fun | 316 => 41 | n => n, fun | 9 => 9 | 3 => 3 | 4 => 4 | 37 => 120 | 0 => 0 | 127 => 121 | 5 => 5 | n => n, fun | n => n⟩
theorem Tryz.laysM316 : Go.Proofs.LaysM.n316 Tryz.prog Tryz.laysM316_ren := {
  mixed := by kernel_rfl
  f316 := Tryz.func41.trans (congrArg some (by kernel_rfl))
  t0 := Tryz.underlying0
  a0 := Tryz.isAgg0
  z0 := Tryz.sizeOf0
  v0 := Tryz.zeroValue0
  t3 := Tryz.underlying3
  a3 := Tryz.isAgg3
  z3 := Tryz.sizeOf3
  v3 := Tryz.zeroValue3
  t4 := Tryz.underlying4
  a4 := Tryz.isAgg4
  z4 := Tryz.sizeOf4
  v4 := Tryz.zeroValue4
  t9 := Tryz.underlying9
  a9 := Tryz.isAgg9
  z9 := Tryz.sizeOf9
  v9 := Tryz.zeroValue9
  t37 := Tryz.underlying120
  a37 := Tryz.isAgg120
  z37 := Tryz.sizeOf120
  v37 := Tryz.zeroValue120
  t127 := Tryz.underlying121
  a127 := Tryz.isAgg121
  z127 := Tryz.sizeOf121
  v127 := Tryz.zeroValue121
  t5 := Tryz.underlying5
  a5 := Tryz.isAgg5
  z5 := Tryz.sizeOf5
  v5 := Tryz.zeroValue5
  i0 := by kernel_rfl
  i3 := by kernel_rfl
  i4 := by kernel_rfl
  i5 := by kernel_rfl
  i9 := by kernel_rfl
  i37 := by kernel_rfl
  i127 := by kernel_rfl }
open Go.RowKit in
/-- internal/stringslite.Clone (what strings.Clone calls): "Clone returns a fresh copy of s.": THE SAME BYTES. Of what was there nothing has turned (a new row is laid, and frozen, where s is not empty). (LAID: no walk: one application.) -/
theorem Tryz.stringslite_Clone (s : ByteArray) (w : World) (hlim : s.size ≤ 281474976710656) :
    Calls Tryz.prog 41 #[.string s] w fun e w' => e = .returned (.string s) ∧ Below w.heap.size w w' := Any.stringslite_Clone Tryz.laysM316 s w hlim
end Go.Proofs
namespace Go.Proofs.YthilnaeomkppaaaGreatFmt
section
open Go.RowKit
attribute [local go_sem] bits_run
/-- A value of the program, field by field. -/
structure VV where
  k : Int
  b : Bool
  x : Nat
  s : ByteArray
  i : Int
def VV.agg (v : VV) : Value := .agg #[.int .i64 v.k, .bool v.b, .float .f64 v.x, .string v.s, .int .i64 v.i]
def VV.ifc (v : VV) : Value :=
  if v.k = 1 then .iface 129 (.agg #[]) else if v.k = 2 then .iface 130 (.agg #[]) else if v.k = 3 then .iface 131 (.bool v.b) else if v.k = 4 then .iface 104 (.float .f64 v.x)
  else if v.k = 5 then .iface 133 (.string v.s) else if v.k = 6 then .iface 134 (.int .i64 v.i) else .iface 135 (.int .i64 v.i)
def strV (k : Int) (b : Bool) (x : Nat) (s : ByteArray) (i : Int) : Bool :=
  b && k != 3 || x != 0 && k != 4 || !s.toList.isEmpty && k != 5 || i != 0 && k != 6 && k != 7

set_option maxHeartbeats 1000000 in
theorem strays_any (k : Int) (b : Bool) (x : Nat) (s : ByteArray) (i : Int) (w : World) :
    Calls Tryz.prog 63 #[.agg #[.int .i64 k, .bool b, .float .f64 x, .string s, .int .i64 i]] w fun e w' => e = .returned (.bool (strV k b x s i)) ∧ Below w.heap.size w w' := by
  unfold strV
  cases b
  all_goals
    go_enter Tryz.func63, Tryz.ntmps63
    go_wp2
    all_goals
      go_ret
      refine ⟨?_, (Below.refl _ _).alloc (Nat.le_refl _) _⟩
      simp [*]
def fitV (s : ByteArray) : Bool := decide (s.size ≤ 1048576) && M.valid false (nums s)
theorem fits_any (s : ByteArray) (w : World) (hT : Lib.Utf8Tabs 4 5 w) :
    Calls Tryz.prog 64 #[.string s] w fun e w' => e = .returned (.bool (fitV s)) ∧ Below w.heap.size w w' := by
  have HV := hide (valid_any s w hT)
  clear hT
  unfold fitV
  by_cases h : s.size ≤ 1048576
  · have h' : (s.size : Int) ≤ 1048576 := by omega
    go_enter Tryz.func64, Tryz.ntmps64
    go_wp2_with fail
    refine (unhide HV).mono ?_
    rintro e w1 ⟨rfl, hb⟩
    go_wp2
    go_ret
    refine ⟨?_, hb⟩
    rw [decide_eq_true h]
    rfl
  · have h' : ¬ (s.size : Int) ≤ 1048576 := by omega
    go_enter Tryz.func64, Tryz.ntmps64
    go_wp2
    go_ret
    exact ⟨rfl, Below.refl _ _⟩
def inG (st ft : Bool) (k i : Int) : Bool :=
  !st && (k == 1 || k == 2 || k == 3 || k == 4 || k == 5 && ft || k == 6 && decide (1 ≤ i) && decide (i ≤ 65536) || k == 7 && decide (1 ≤ i) && decide (i ≤ 65536))
def inI (st ft : Bool) (v : VV) : Value := if inG st ft v.k v.i then v.ifc else .nilIface
def goodV (k : Int) (b : Bool) (x : Nat) (s : ByteArray) (i : Int) : Bool := inG (strV k b x s i) (fitV s) k i
def ifcV (v : VV) : Value := inI (strV v.k v.b v.x v.s v.i) (fitV v.s) v
def VV.good (v : VV) : Bool := goodV v.k v.b v.x v.s v.i
/-- A block of five cells, and a call that kept it. -/
theorem five {w w1 : World} {c0 c1 c2 c3 c4 : Value} {t : TypeId} (hb : Below (w.alloc (Obj.cells #[c0, c1, c2, c3, c4] t)).heap.size (w.alloc (Obj.cells #[c0, c1, c2, c3, c4] t)) w1) :
    w1.cell? ⟨w.heap.size, 0, none⟩ = some c0 ∧ w1.cell? ⟨w.heap.size, 1, none⟩ = some c1 ∧ w1.cell? ⟨w.heap.size, 2, none⟩ = some c2 ∧ w1.cell? ⟨w.heap.size, 3, none⟩ = some c3 ∧ w1.cell? ⟨w.heap.size, 4, none⟩ = some c4 ∧
    Below w.heap.size w w1 ∧ w.heap.size < w1.heap.size := by
  have h0 := hb.cell (p := ⟨w.heap.size, 0, none⟩) (by simp)
  have h1 := hb.cell (p := ⟨w.heap.size, 1, none⟩) (by simp)
  have h2 := hb.cell (p := ⟨w.heap.size, 2, none⟩) (by simp)
  have h3 := hb.cell (p := ⟨w.heap.size, 3, none⟩) (by simp)
  have h4 := hb.cell (p := ⟨w.heap.size, 4, none⟩) (by simp)
  simp [go_sem] at h0 h1 h2 h3 h4
  refine ⟨h0, h1, h2, h3, h4, ((Below.refl _ _).alloc (Nat.le_refl _) _).trans (hb.mono (by simp)), ?_⟩
  have := hb.size
  simp at this
  omega
set_option maxHeartbeats 1000000 in
theorem inside_any (k : Int) (b : Bool) (x : Nat) (s : ByteArray) (i : Int) (w : World) (hT : Lib.Utf8Tabs 4 5 w) :
    Calls Tryz.prog 49 #[.agg #[.int .i64 k, .bool b, .float .f64 x, .string s, .int .i64 i]] w fun e w' => e = .returned (.tuple #[ifcV ⟨k, b, x, s, i⟩, .bool (goodV k b x s i)]) ∧ Below w.heap.size w w' := by
  have HS := hide (fun w => strays_any k b x s i w)
  have HF := hide (fun w (hT : Lib.Utf8Tabs 4 5 w) => fits_any s w hT)
  have HT := hide hT
  clear hT
  unfold goodV ifcV
  dsimp only
  generalize strV k b x s i = st at *
  generalize fitV s = ft at *
  cases st
  · by_cases e5 : k = 5
    · subst e5
      go_enter Tryz.func49, Tryz.ntmps49
      go_wp2_with fail
      refine (unhide HS _).mono ?_
      rintro e w1 ⟨rfl, hb⟩
      obtain ⟨c0, c1, c2, c3, c4, hB, hsz⟩ := five hb
      clear hb
      go_wp2_with fail
      refine (unhide HF _ (tabs_below (unhide HT) hB)).mono ?_
      rintro e w2 ⟨rfl, hb2⟩
      have d3 := hb2.cell (p := ⟨w.heap.size, 3, none⟩) hsz
      rw [c3] at d3
      cases ft
      · have d0 := hb2.cell (p := ⟨w.heap.size, 0, none⟩) hsz
        rw [c0] at d0
        go_wp2
        go_ret2
        exact ⟨by simp [inG, inI], hB.trans (hb2.mono hB.size)⟩
      · go_wp2
        go_ret2
        exact ⟨by simp [inG, inI, VV.ifc], hB.trans (hb2.mono hB.size)⟩
    · have hk : k = 1 ∨ k = 2 ∨ k = 3 ∨ k = 4 ∨ k = 6 ∨ k = 7 ∨ (k == 1) = false ∧ (k == 2) = false ∧ (k == 3) = false ∧ (k == 4) = false ∧ (k == 5) = false ∧ (k == 6) = false ∧ (k == 7) = false := by
        simp only [beq_eq_false_iff_ne]
        omega
      clear e5 HF HT
      rcases hk with rfl | rfl | rfl | rfl | rfl | rfl | ⟨e1, e2, e3, e4, e5, e6, e7⟩
      all_goals
        go_enter Tryz.func49, Tryz.ntmps49
        go_wp2_with fail
        refine (unhide HS _).mono ?_
        rintro e w1 ⟨rfl, hb⟩
        obtain ⟨c0, c1, c2, c3, c4, hB, hsz⟩ := five hb
        clear hb HS
        go_wp2
        all_goals
          go_ret2
          refine ⟨?_, hB⟩
          simp [inG, inI, VV.ifc, *]
          try omega
  · go_enter Tryz.func49, Tryz.ntmps49
    go_wp2_with fail
    refine (unhide HS _).mono ?_
    rintro e w1 ⟨rfl, hb⟩
    obtain ⟨c0, c1, c2, c3, c4, hB, hsz⟩ := five hb
    go_wp2
    go_ret2
    exact ⟨by simp [inG, inI], hB⟩
theorem empty_of {s : ByteArray} (h : s.toList.isEmpty = true) : s = ByteArray.empty := by
  cases s with
  | mk d =>
    rw [Lib.toList_data] at h
    have : d.toList = [] := by simpa using h
    have h2 : d = #[] := Array.toList_inj.1 (by simpa using this)
    subst h2; rfl
/-- What a well formed value can be. -/
theorem good_cases {k : Int} {b : Bool} {x : Nat} {s : ByteArray} {i : Int} (h : goodV k b x s i = true) :
    (k = 1 ∧ b = false ∧ x = 0 ∧ s = ByteArray.empty ∧ i = 0) ∨ (k = 2 ∧ b = false ∧ x = 0 ∧ s = ByteArray.empty ∧ i = 0) ∨ (k = 3 ∧ x = 0 ∧ s = ByteArray.empty ∧ i = 0) ∨ (k = 4 ∧ b = false ∧ s = ByteArray.empty ∧ i = 0) ∨
    (k = 5 ∧ b = false ∧ x = 0 ∧ i = 0 ∧ fitV s = true) ∨ (k = 6 ∧ b = false ∧ x = 0 ∧ s = ByteArray.empty ∧ 1 ≤ i ∧ i ≤ 65536) ∨ (k = 7 ∧ b = false ∧ x = 0 ∧ s = ByteArray.empty ∧ 1 ≤ i ∧ i ≤ 65536) := by
  have hs := @empty_of s
  unfold goodV inG strV at h
  generalize fitV s = ft at *
  generalize s.toList.isEmpty = q at *
  have hk : k = 1 ∨ k = 2 ∨ k = 3 ∨ k = 4 ∨ k = 5 ∨ k = 6 ∨ k = 7 := by
    simp at h
    omega
  rcases hk with rfl | rfl | rfl | rfl | rfl | rfl | rfl <;> cases b <;> cases q <;> simp at h hs <;> simp [h, hs]
theorem clone_any (s : ByteArray) (w : World) (h : s.size ≤ 1048576) : Calls Tryz.prog 23 #[.string s] w fun e w' => e = .returned (.string s) ∧ Below w.heap.size w w' := by
  have HC := hide (Tryz.stringslite_Clone s w (by omega))
  go_enter Tryz.func23, Tryz.ntmps23
  go_wp2_with fail
  refine (unhide HC).mono ?_
  rintro e w1 ⟨rfl, hb⟩
  go_wp2
  go_ret
  exact ⟨rfl, hb⟩
