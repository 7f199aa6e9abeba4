import Derived.Test.YtclahchmdcgdhaaFe
namespace Go.Proofs.Ytclahchmdcgdhaa
open Go.RowKit FM
attribute [local go_sem] frombits_run bits_run neg_run

theorem vi {k : IntKind} {a b : Int} (h : a = b) : Value.int k a = Value.int k b := by rw [h]
/-- A fact that the walk is not to use. -/
structure Hid (p : Prop) : Prop where
  it : p
/-- The parts of a size. -/
def pm (b : Nat) : Nat := if b < 2 ^ 52 then b else 2 ^ 52 + b % 2 ^ 52
def pk (b : Nat) : Nat := if b < 2 ^ 52 then 0 else b / 2 ^ 52 - 1
theorem vl_parts (b : Nat) : vl b = pm b * 2 ^ pk b := by
  unfold vl pm pk
  split <;> simp
theorem pm_lt (b : Nat) : pm b < 2 ^ 53 := by unfold pm; split <;> omega
theorem pk_le (b : Nat) (h : b ≤ INF) : pk b ≤ 2046 := by unfold pk; unfold INF at h; split <;> omega
theorem pk_lt (b : Nat) (h : b < INF) : pk b ≤ 2045 := by unfold pk; unfold INF at h; split <;> omega
theorem andFrac (b : Nat) (hb : b < 2 ^ 64) : bits BinOp.and IntKind.u64 (b : Int) 4503599627370495 = ((b % 2 ^ 52 : Nat) : Int) := by
  have h := u64_and_nat b 4503599627370495 hb (by decide)
  have q : b &&& 4503599627370495 = b % 2 ^ 52 := Nat.and_two_pow_sub_one_eq_mod b 52
  rw [q] at h
  exact h
theorem andExp (b : Nat) (hb : b < 2 ^ 64) : bits BinOp.and IntKind.u64 ((b : Int) / 4503599627370496) 2047 = ((sz b / 2 ^ 52 : Nat) : Int) := by
  have h := u64_and_nat (b / 2 ^ 52) 2047 (by omega) (by decide)
  have q : b / 2 ^ 52 &&& 2047 = b / 2 ^ 52 % 2 ^ 11 := Nat.and_two_pow_sub_one_eq_mod _ 11
  rw [q] at h
  have e : (b : Int) / 4503599627370496 = ((b / 2 ^ 52 : Nat) : Int) := by omega
  rw [e]
  refine h.trans ?_
  unfold sz
  omega
theorem orHid (f : Nat) (hf : f < 2 ^ 52) : bits BinOp.or IntKind.u64 (f : Int) 4503599627370496 = ((2 ^ 52 + f : Nat) : Int) := by
  have h := orExp f 1 hf (by decide)
  simpa using h

theorem parts_any (b : Nat) (hb : b < 2 ^ 63) (w : World) : Calls Try.prog 39 #[.int .u64 (b : Int)] w fun e w' => e = .returned (.tuple #[.int .u64 (pm b : Int), .int .i64 (-1074 + (pk b : Int))]) ∧ w' = w := by
  have hs : sz b = b := Nat.mod_eq_of_lt hb
  have a1 := andFrac b (by omega)
  have a2 := andExp b (by omega)
  rw [hs] at a2
  have a3 := orHid (b % 2 ^ 52) (Nat.mod_lt _ (by decide))
  by_cases h : b < 2 ^ 52
  · have e1 : b / 2 ^ 52 = 0 := by omega
    have e2 : b % 2 ^ 52 = b := by omega
    have p1 : pm b = b := by unfold pm; rw [if_pos h]
    have p2 : pk b = 0 := by unfold pk; rw [if_pos h]
    rw [e1] at a2; rw [e2] at a1 a3; rw [p1, p2]
    clear e1 e2 p1 p2
    go_enter Try.func39, Try.ntmps39
    go_wp2
    go_ret2
    exact ⟨rfl, rfl⟩
  · have p1 : pm b = 2 ^ 52 + b % 2 ^ 52 := by unfold pm; rw [if_neg h]
    have p2 : pk b = b / 2 ^ 52 - 1 := by unfold pk; rw [if_neg h]
    have hE : b / 2 ^ 52 ≠ 0 := by omega
    have hE2 : b / 2 ^ 52 < 2048 := by omega
    rw [p1, p2]
    generalize b / 2 ^ 52 = E at *
    generalize hm : 2 ^ 52 + b % 2 ^ 52 = M at *
    generalize b % 2 ^ 52 = F at *
    have hE' : ¬ ((E : Int) = 0) := by omega
    have hE3 : ((E : Int) == 0) = false := by simpa using hE'
    clear p1 p2 h hs hm
    go_enter Try.func39, Try.ntmps39
    go_wp2
    go_ret2
    exact ⟨rt rfl (vi (by omega)), rfl⟩
theorem signed_any (r : Nat) (s : Bool) (hr : r < 2 ^ 63) (w : World) : Calls Try.prog 57 #[.int .u64 (r : Int), .bool s] w fun e w' => e = .returned (.float .f64 (Ieee.double.word s r)) ∧ w' = w := by
  have hw := word_eq s r
  cases s
  · simp at hw
    rw [hw]
    clear hw
    go_enter Try.func57, Try.ntmps57
    go_wp2
    go_ret
    exact ⟨rfl, rfl⟩
  · simp only [if_true] at hw
    rw [hw]
    clear hw
    have h := u64_or_nat r 9223372036854775808 (by omega) (by decide)
    have q : r ||| 9223372036854775808 = 2 ^ 63 + r := by
      have := Nat.two_pow_add_eq_or_of_lt (i := 63) (b := r) hr 1
      rw [Nat.mul_one] at this
      rw [this, Nat.or_comm]
    rw [q] at h
    have h' : bits BinOp.or IntKind.u64 (r : Int) 9223372036854775808 = ((2 ^ 63 + r : Nat) : Int) := h
    generalize 2 ^ 63 + r = v at *
    clear h q
    go_enter Try.func57, Try.ntmps57
    go_wp2
    go_ret
    exact ⟨rfl, rfl⟩
theorem bits_or_comm (a b : Int) : bits BinOp.or IntKind.u64 a b = bits BinOp.or IntKind.u64 b a := by
  simp only [bits, BitVec.or_comm]
set_option maxRecDepth 100000 in
/-- pack: m times 2 to the e, which is a float. -/
theorem pack_any (m k : Nat) (s : Bool) (hm : m < 2 ^ 53) (hk : k ≤ 2045) (w : World) : Calls Try.prog 47 #[.int .u64 (m : Int), .int .i64 (-1074 + (k : Int)), .bool s] w fun e w' => ∃ ρ, e = .returned (.float .f64 (Ieee.double.word s ρ)) ∧ vl ρ = m * 2 ^ k ∧ ρ < INF ∧ w' = w := by
  by_cases h0 : m = 0
  · subst h0
    go_enter Try.func47, Try.ntmps47
    go_wp2_with fail
    refine (signed_any 0 s (by decide) _).mono ?_
    rintro e w' ⟨rfl, rfl⟩
    go_wp2
    go_ret
    exact ⟨0, rfl, by rw [vl0]; simp, by decide, rfl⟩
  · have h0' : ((m : Int) == 0) = false := by simpa using h0
    go_enter Try.func47, Try.ntmps47
    go_wp2
    go_loopw [0, 1] (fun mv ev wr => ∃ m' k' : Nat, mv = .int .u64 (m' : Int) ∧ ev = .int .i64 (-1074 + (k' : Int)) ∧ m' ≠ 0 ∧ m' < 2 ^ 53 ∧ k' ≤ k ∧ m' * 2 ^ k' = m * 2 ^ k ∧ wr = w) (fun _ ev _ => (intOf ev + 1074).toNat)
    case atStart => exact ⟨m, k, rfl, rfl, h0, hm, Nat.le_refl _, rfl, rfl⟩
    case round =>
      obtain ⟨m', k', rfl, rfl, hm0, hm53, hkk, hprod, rfl⟩ := hrel
      by_cases hc : m' < 2 ^ 52 ∧ 0 < k'
      · have c1 : (m' : Int) < 4503599627370496 := by omega
        have c2 : (-1074 : Int) < -1074 + (k' : Int) := by omega
        go_wp2
        refine ⟨⟨m' * 2, k' - 1, vi (by omega), vi (by omega), by omega, by omega, by omega, ?_, trivial⟩, ?_⟩
        · rw [← hprod, Nat.mul_assoc, Nat.mul_comm 2, ← Nat.pow_succ]
          congr 2; omega
        · simp [intOf]; omega
      · have hres : ∃ ρ : Nat, vl ρ = m * 2 ^ k ∧ ρ < INF ∧ ((m' < 2 ^ 52 ∧ ρ = m') ∨ (2 ^ 52 ≤ m' ∧ ρ = (k' + 1) * 2 ^ 52 + (m' - 2 ^ 52))) := by
          by_cases hb : m' < 2 ^ 52
          · have hk0 : k' = 0 := by omega
            subst hk0
            refine ⟨m', ?_, by unfold INF; omega, .inl ⟨hb, rfl⟩⟩
            rw [← hprod, Nat.pow_zero, Nat.mul_one]
            unfold vl; rw [if_pos hb]
          · refine ⟨(k' + 1) * 2 ^ 52 + (m' - 2 ^ 52), ?_, by unfold INF; omega, .inr ⟨by omega, rfl⟩⟩
            rw [← hprod]
            unfold vl
            rw [if_neg (by omega), show ((k' + 1) * 2 ^ 52 + (m' - 2 ^ 52)) / 2 ^ 52 = k' + 1 by omega, show ((k' + 1) * 2 ^ 52 + (m' - 2 ^ 52)) % 2 ^ 52 = m' - 2 ^ 52 by omega, Nat.add_sub_cancel, Nat.add_sub_cancel' (by omega)]
        have HR := hres
        clear hres
        have hkb : k' ≤ 2045 := by omega
        have hc' : (m' : Int) < 4503599627370496 → ¬ ((-1074 : Int) < -1074 + (k' : Int)) := by omega
        have hm53' : ¬ ((9007199254740992 : Int) ≤ (m' : Int)) := by omega
        clear hprod
        by_cases hb : m' < 2 ^ 52
        · have hb1 : (m' : Int) < 4503599627370496 := by omega
          have hb2 : ¬ ((-1074 : Int) < -1074 + (k' : Int)) := hc' hb1
          obtain ⟨ρ, hv, hI, hcase⟩ := HR
          have hρ : ρ = m' := by omega
          subst hρ
          have HV : Hid (vl ρ = m * 2 ^ k ∧ ρ < INF) := ⟨hv, hI⟩
          have hρ2 : ρ < 2 ^ 63 := by omega
          clear hv hI hcase hc' hc
          go_wp2
          refine wp_loop_once ?_
          have hz1 : decide ((9007199254740992 : Int) ≤ (ρ : Int)) = false := by simpa using hm53'
          clear hm53'
          go_wp2_with fail
          refine (signed_any ρ s hρ2 _).mono ?_
          rintro e w' ⟨rfl, rfl⟩
          go_wp2
          go_ret
          exact ⟨ρ, rfl, HV.it.1, HV.it.2, rfl⟩
        · have hb1 : ¬ ((m' : Int) < 4503599627370496) := by omega
          obtain ⟨ρ, hv, hI, hcase⟩ := HR
          have hρ : ρ = (k' + 1) * 2 ^ 52 + (m' - 2 ^ 52) := by omega
          have hl := INF_lt
          have hρ2 : ρ < 2 ^ 63 := by omega
          have a1 := andFrac m' (by omega)
          have a2 := orExp (m' % 2 ^ 52) (k' + 1) (Nat.mod_lt _ (by decide)) (by omega)
          have a3 : bits BinOp.or IntKind.u64 (((k' + 1) * 2 ^ 52 : Nat) : Int) ((m' % 2 ^ 52 : Nat) : Int) = (ρ : Int) := by
            rw [bits_or_comm, a2]
            congr 1; omega
          rw [show (((k' + 1) * 2 ^ 52 : Nat) : Int) = (-1074 + (k' : Int) + 1075) * 4503599627370496 by omega] at a3
          generalize m' % 2 ^ 52 = F at *
          have HV : Hid (vl ρ = m * 2 ^ k ∧ ρ < INF) := ⟨hv, hI⟩
          clear a2 hρ hcase hv hI hc' hc hl
          go_wp2
          refine wp_loop_once ?_
          have hz1 : decide ((9007199254740992 : Int) ≤ (m' : Int)) = false := by simpa using hm53'
          have hz2 : decide ((m' : Int) < (4503599627370496 : Int)) = false := by simpa using hb1
          clear hm53' hb1 hb
          go_wp2_with fail
          refine (signed_any ρ s hρ2 _).mono ?_
          rintro e w' ⟨rfl, rfl⟩
          go_wp2
          go_ret
          exact ⟨ρ, rfl, HV.it.1, HV.it.2, rfl⟩
end Go.Proofs.Ytclahchmdcgdhaa
