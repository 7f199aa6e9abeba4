import Derived.Test.YtclahchmdcgdhaaDoorRows
import Derived.Test.YtclahchmdcgdhaaDoorMathb
import Derived.WalkKit
import Derived.WalkSpells
import Derived.WalkLawsBesides
import Derived.Laws.BitsAllLaws
namespace Go.Proofs.YtclahchmdcgdhaaDoor
open Go.RowKit FM

theorem frombits_run (n : Int) (w : World) : (callFunc 8 #[.int .u64 n]).run Tryd.prog w = .ok (.value (.float .f64 n.toNat)) w := by
  rw [run_callFunc_extern Tryd.func8 (by kernel_rfl) (by kernel_rfl) (by kernel_rfl) (e := Extern.MathFloatBits.float64frombits) (by kernel_rfl)]; rfl
theorem bits_run (b : Nat) (w : World) : (callFunc 21 #[.float .f64 b]).run Tryd.prog w = .ok (.value (.int .u64 (b : Int))) w := by
  rw [run_callFunc_extern Tryd.func21 (by kernel_rfl) (by kernel_rfl) (by kernel_rfl) (e := Extern.MathFloatBits.float64bits) (by kernel_rfl)]; rfl
attribute [local go_sem] frombits_run bits_run
theorem size_bits (b : Nat) (hb : b < 2 ^ 64) : bits BinOp.andNot IntKind.u64 (b : Int) 9223372036854775808 = (sz b : Int) := by
  have h := u64_andNot_nat b 9223372036854775808 hb (by decide)
  have e : b &&& (18446744073709551615 - 9223372036854775808) = b % 2 ^ 63 := Nat.and_two_pow_sub_one_eq_mod b 63
  rw [e] at h
  exact h
theorem rb {a b : Bool} (h : a = b) : Ending.returned (.bool a) = Ending.returned (.bool b) := by rw [h]
theorem ri {k : IntKind} {a b : Int} (h : a = b) : Ending.returned (.int k a) = Ending.returned (.int k b) := by rw [h]
theorem w64 {a : Int} (h : -9223372036854775808 ≤ a) (h' : a ≤ 9223372036854775807) : wrap64 a = a := by unfold wrap64; omega
theorem sz_lt (b : Nat) : sz b < 9223372036854775808 := Nat.mod_lt _ (by decide)
theorem float_any (n : Nat) (w : World) : Calls Tryd.prog 4 #[.int .u64 (n : Int)] w fun e w' => e = .returned (.float .f64 n) ∧ w' = w := by
  go_enter Tryd.func4, Tryd.ntmps4
  go_wp2
  go_ret
  exact ⟨rfl, rfl⟩
theorem size_any (b : Nat) (hb : b < 2 ^ 64) (w : World) : Calls Tryd.prog 18 #[.float .f64 b] w fun e w' => e = .returned (.int .u64 (sz b : Int)) ∧ w' = w := by
  have hs := size_bits b hb
  clear hb
  go_enter Tryd.func18, Tryd.ntmps18
  go_wp2
  go_ret
  exact ⟨rfl, rfl⟩
theorem finite_any (b : Nat) (hb : b < 2 ^ 64) (w : World) : Calls Tryd.prog 11 #[.float .f64 b] w fun e w' => e = .returned (.bool (decide (sz b < INF))) ∧ w' = w := by
  go_enter Tryd.func11, Tryd.ntmps11
  go_wp2_with fail
  refine (size_any b hb _).mono ?_
  rintro e w' ⟨rfl, rfl⟩
  go_wp2
  go_ret
  refine ⟨rb ?_, rfl⟩
  rw [decide_eq_decide, show INF = 9218868437227405312 from rfl]
  omega
theorem negative_any (b : Nat) (hb : b < 2 ^ 64) (w : World) : Calls Tryd.prog 20 #[.float .f64 b] w fun e w' => e = .returned (.bool (ng b)) ∧ w' = w := by
  go_enter Tryd.func20, Tryd.ntmps20
  go_wp2
  go_ret
  refine ⟨rb ?_, rfl⟩
  unfold ng
  rw [Bool.eq_iff_iff]
  simp only [beq_iff_eq]
  omega
theorem rt {a b c d : Value} (h : a = c) (h' : b = d) : Ending.returned (.tuple #[a, b]) = Ending.returned (.tuple #[c, d]) := by rw [h, h']
theorem vb {a b : Bool} (h : a = b) : Value.bool a = Value.bool b := by rw [h]
theorem fo (x y : Nat) : FloatKind.f64.format.order x y = Ieee.double.order x y := rfl
theorem and2047 (e : Nat) (he : e < 2048) : bits BinOp.and IntKind.u64 (e : Int) 2047 = (e : Int) := by
  have h := u64_and_nat e 2047 (by omega) (by decide)
  have q : e &&& 2047 = e % 2 ^ 11 := Nat.and_two_pow_sub_one_eq_mod e 11
  rw [q, Nat.mod_eq_of_lt (by omega)] at h
  exact h
theorem andNotExp (r : Nat) (hr : r < 2 ^ 63) : bits BinOp.andNot IntKind.u64 (r : Int) 9218868437227405312 = ((r % 2 ^ 52 : Nat) : Int) := by
  have h := u64_andNot_nat r 9218868437227405312 (by omega) (by decide)
  have e : (18446744073709551615 - 9218868437227405312 : Nat) = 2 ^ 63 ||| (2 ^ 52 - 1) := by decide
  have q : r &&& (2 ^ 63 ||| (2 ^ 52 - 1)) = r % 2 ^ 52 := by
    have z : r &&& 2 ^ 63 = 0 := by
      apply Nat.eq_of_testBit_eq
      intro i
      rw [Nat.testBit_and, Nat.testBit_two_pow]
      by_cases hi : 63 = i
      · subst hi; rw [Nat.testBit_lt_two_pow hr]; simp
      · simp [hi]
    rw [Nat.and_or_distrib_left, Nat.and_two_pow_sub_one_eq_mod, z]
    simp
  rw [e, q] at h
  exact h
theorem orExp (f e : Nat) (hf : f < 2 ^ 52) (he : e < 4096) : bits BinOp.or IntKind.u64 (f : Int) ((e * 2 ^ 52 : Nat) : Int) = ((e * 2 ^ 52 + f : Nat) : Int) := by
  have h := u64_or_nat f (e * 2 ^ 52) (by omega) (by omega)
  have q : f ||| e * 2 ^ 52 = e * 2 ^ 52 + f := by
    rw [Nat.or_comm, Nat.mul_comm e, ← Nat.two_pow_add_eq_or_of_lt hf]
  rw [q] at h
  exact h
theorem pgen (x a b c : Nat) (h : c = a + b) : x * 2 ^ c = x * 2 ^ a * 2 ^ b := by
  rw [h, Nat.mul_assoc, Nat.pow_add]
theorem rf {a b : Nat} (h : a = b) : Ending.returned (.float .f64 a) = Ending.returned (.float .f64 b) := by rw [h]
theorem abs_any (b : Nat) (hb : b < 2 ^ 64) (w : World) : Calls Tryd.prog 15 #[.float .f64 b] w fun e w' => e = .returned (.float .f64 (sz b)) ∧ w' = w := by
  have hs := size_bits b hb
  clear hb
  go_enter Tryd.func15, Tryd.ntmps15
  go_wp2
  go_ret
  exact ⟨rf (by simp), rfl⟩
theorem sz_sz (b : Nat) : sz (sz b) = sz b := by unfold sz; omega
theorem pl_sz (b : Nat) : pl (sz b) = (sz b : Int) := by
  have h : ng (sz b) = false := by unfold ng sz; simp
  unfold pl; rw [h, sz_sz]; rfl
theorem pl_nat (b : Nat) (h : b < 2 ^ 63) : pl b = (b : Int) := by
  have e : sz b = b := Nat.mod_eq_of_lt h
  have := pl_sz b
  rwa [e] at this
theorem isN_sz (b : Nat) : isN (sz b) = isN b := by unfold isN; rw [sz_sz]
theorem ltz (x : Nat) : (FloatKind.f64.format.order x 0 == some .lt) = (!isN x && (ng x && decide (0 < sz x))) := by
  have h0 : isN 0 = false := by decide
  have p0 : pl 0 = 0 := by decide
  rw [fo, ltF, h0, p0, Bool.eq_iff_iff]
  unfold pl
  cases ng x <;> simp
theorem vi {k : IntKind} {a b : Int} (h : a = b) : Value.int k a = Value.int k b := by rw [h]
/-- A fact that the walk is not to use. -/
structure Hid (p : Prop) : Prop where
  it : p
/-- The parts of a size. -/
def pm (b : Nat) : Nat := if b < 2 ^ 52 then b else 2 ^ 52 + b % 2 ^ 52
def pk (b : Nat) : Nat := if b < 2 ^ 52 then 0 else b / 2 ^ 52 - 1
theorem vl_parts (b : Nat) : vl b = pm b * 2 ^ pk b := by
  unfold vl pm pk
  split <;> simp
theorem pm_lt (b : Nat) : pm b < 2 ^ 53 := by unfold pm; split <;> omega
theorem pk_le (b : Nat) (h : b ≤ INF) : pk b ≤ 2046 := by unfold pk; unfold INF at h; split <;> omega
theorem pk_lt (b : Nat) (h : b < INF) : pk b ≤ 2045 := by unfold pk; unfold INF at h; split <;> omega
theorem andFrac (b : Nat) (hb : b < 2 ^ 64) : bits BinOp.and IntKind.u64 (b : Int) 4503599627370495 = ((b % 2 ^ 52 : Nat) : Int) := by
  have h := u64_and_nat b 4503599627370495 hb (by decide)
  have q : b &&& 4503599627370495 = b % 2 ^ 52 := Nat.and_two_pow_sub_one_eq_mod b 52
  rw [q] at h
  exact h
theorem andExp (b : Nat) (hb : b < 2 ^ 64) : bits BinOp.and IntKind.u64 ((b : Int) / 4503599627370496) 2047 = ((sz b / 2 ^ 52 : Nat) : Int) := by
  have h := u64_and_nat (b / 2 ^ 52) 2047 (by omega) (by decide)
  have q : b / 2 ^ 52 &&& 2047 = b / 2 ^ 52 % 2 ^ 11 := Nat.and_two_pow_sub_one_eq_mod _ 11
  rw [q] at h
  have e : (b : Int) / 4503599627370496 = ((b / 2 ^ 52 : Nat) : Int) := by omega
  rw [e]
  refine h.trans ?_
  unfold sz
  omega
theorem orHid (f : Nat) (hf : f < 2 ^ 52) : bits BinOp.or IntKind.u64 (f : Int) 4503599627370496 = ((2 ^ 52 + f : Nat) : Int) := by
  have h := orExp f 1 hf (by decide)
  simpa using h
theorem parts_any (b : Nat) (hb : b < 2 ^ 63) (w : World) : Calls Tryd.prog 19 #[.int .u64 (b : Int)] w fun e w' => e = .returned (.tuple #[.int .u64 (pm b : Int), .int .i64 (-1074 + (pk b : Int))]) ∧ w' = w := by
  have hs : sz b = b := Nat.mod_eq_of_lt hb
  have a1 := andFrac b (by omega)
  have a2 := andExp b (by omega)
  rw [hs] at a2
  have a3 := orHid (b % 2 ^ 52) (Nat.mod_lt _ (by decide))
  by_cases h : b < 2 ^ 52
  · have e1 : b / 2 ^ 52 = 0 := by omega
    have e2 : b % 2 ^ 52 = b := by omega
    have p1 : pm b = b := by unfold pm; rw [if_pos h]
    have p2 : pk b = 0 := by unfold pk; rw [if_pos h]
    rw [e1] at a2; rw [e2] at a1 a3; rw [p1, p2]
    clear e1 e2 p1 p2
    go_enter Tryd.func19, Tryd.ntmps19
    go_wp2
    go_ret2
    exact ⟨rfl, rfl⟩
  · have p1 : pm b = 2 ^ 52 + b % 2 ^ 52 := by unfold pm; rw [if_neg h]
    have p2 : pk b = b / 2 ^ 52 - 1 := by unfold pk; rw [if_neg h]
    have hE : b / 2 ^ 52 ≠ 0 := by omega
    have hE2 : b / 2 ^ 52 < 2048 := by omega
    rw [p1, p2]
    generalize b / 2 ^ 52 = E at *
    generalize hm : 2 ^ 52 + b % 2 ^ 52 = M at *
    generalize b % 2 ^ 52 = F at *
    have hE' : ¬ ((E : Int) = 0) := by omega
    have hE3 : ((E : Int) == 0) = false := by simpa using hE'
    clear p1 p2 h hs hm
    go_enter Tryd.func19, Tryd.ntmps19
    go_wp2
    go_ret2
    exact ⟨rt rfl (vi (by omega)), rfl⟩
theorem shr_nat (x n : Nat) (y : Int) (hy : y = (n : Int)) : Op.shift .shr .u64 (x : Int) .i64 y = pure (.int .u64 ((x / 2 ^ min n 64 : Nat) : Int)) := by
  subst hy
  have h : ¬ ((n : Int) < 0) := by omega
  unfold Op.shift
  rw [if_neg h]
  have e : (min (n : Int).toNat (IntKind.u64.bits)) = min n 64 := by simp [IntKind.bits]
  simp only [e]
  congr 2
  rw [Int.fdiv_eq_ediv_of_nonneg _ (by exact Int.le_of_lt (Int.pow_pos (by decide)))]
  simp
theorem shl_nat (x n : Nat) (y : Int) (hy : y = (n : Int)) : Op.shift .shl .u64 (x : Int) .i64 y = pure (.int .u64 ((x * 2 ^ min n 64 % 2 ^ 64 : Nat) : Int)) := by
  subst hy
  have h : ¬ ((n : Int) < 0) := by omega
  unfold Op.shift
  rw [if_neg h]
  have e : (min (n : Int).toNat (IntKind.u64.bits)) = min n 64 := by simp [IntKind.bits]
  simp only [e]
  congr 2
theorem nat_facts {r : Nat} (h : r ≤ INF) : sz r = r ∧ ng r = false ∧ isN r = false ∧ pl r = (r : Int) := by
  have hI := INF_lt
  have hs : sz r = r := Nat.mod_eq_of_lt (by omega)
  have hn : ng r = false := by unfold ng; simp; omega
  refine ⟨hs, hn, ?_, ?_⟩
  · unfold isN; rw [hs]; simp; omega
  · unfold pl; rw [hn, hs]; rfl

end Go.Proofs.YtclahchmdcgdhaaDoor
