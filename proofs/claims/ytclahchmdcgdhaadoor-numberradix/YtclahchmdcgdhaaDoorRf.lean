import Derived.Test.YtclahchmdcgdhaaDoorRe
import Derived.Deep.RegionHeld3
namespace Go.Proofs.YtclahchmdcgdhaaDoor
open Go.RowKit FM
attribute [local go_sem] frombits_run bits_run

/-- What stands ahead of a number's size. -/
def sgS (x : Nat) : List UInt8 := if (ng x && decide (0 < sz x)) = true then [45] else []
theorem sign_any (x : Nat) (hx : x < 2 ^ 64) (w : World) : Calls Tryd.prog 14 #[.float .f64 x] w fun e w' => e = .returned (.string ⟨(sgS x).toArray⟩) ∧ w' = w := by
  have HN := fun w => negative_any x hx w
  have HS := fun w => size_any x hx w
  unfold sgS
  cases hn : ng x
  · rw [hn] at HN
    simp only [Bool.false_and, Bool.false_eq_true, if_false]
    go_enter Tryd.func14, Tryd.ntmps14
    go_wp2_with fail
    refine (HN _).mono ?_
    rintro e w' ⟨rfl, rfl⟩
    go_wp2
    go_ret
    exact ⟨rfl, rfl⟩
  · rw [hn] at HN
    by_cases h0 : 0 < sz x
    · have h0' : decide (0 < sz x) = true := by simpa using h0
      rw [h0']
      go_enter Tryd.func14, Tryd.ntmps14
      go_wp2_with fail
      refine (HN _).mono ?_
      rintro e w' ⟨rfl, rfl⟩
      go_wp2_with fail
      refine (HS _).mono ?_
      rintro e w' ⟨rfl, rfl⟩
      go_wp2
      go_ret
      exact ⟨rfl, rfl⟩
    · have h0' : decide (0 < sz x) = false := by simpa using h0
      rw [h0']
      go_enter Tryd.func14, Tryd.ntmps14
      go_wp2_with fail
      refine (HN _).mono ?_
      rintro e w' ⟨rfl, rfl⟩
      go_wp2_with fail
      refine (HS _).mono ?_
      rintro e w' ⟨rfl, rfl⟩
      go_wp2
      go_ret
      exact ⟨rfl, rfl⟩
/-- The digits so far, in the document's answer. -/
def RB (b N n : Nat) (S : List UInt8) : Prop := (n = 0 → S = DG b N) ∧ (0 < n → DG b n ++ S = DG b N)
theorem RB.start (b N : Nat) (hb : 2 ≤ b) : RB b N (N / b) [dc (N % b)] := by
  by_cases h : N < b
  · rw [Nat.div_eq_of_lt h, Nat.mod_eq_of_lt h]
    exact ⟨fun _ => (DG_small h).symm, fun g => by omega⟩
  · have hp : 0 < N / b := Nat.div_pos (by omega) (by omega)
    exact ⟨fun g => by omega, fun _ => (DG_big hb (by omega)).symm⟩
theorem RB.step {b N n : Nat} {S : List UInt8} (h : RB b N n S) (hb : 2 ≤ b) (hn : 0 < n) : RB b N (n / b) (dc (n % b) :: S) := by
  have e := h.2 hn
  by_cases hlt : n < b
  · rw [Nat.div_eq_of_lt hlt, Nat.mod_eq_of_lt hlt]
    rw [DG_small hlt] at e
    exact ⟨fun _ => e, fun g => by omega⟩
  · have hp : 0 < n / b := Nat.div_pos (by omega) (by omega)
    refine ⟨fun g => by omega, fun _ => ?_⟩
    rw [DG_big hb (by omega), List.append_assoc] at e
    exact e
theorem DG_len (b : Nat) : ∀ k n : Nat, n < 2 ^ k → (DG b n).length ≤ k + 1
  | k, n, hn => by
    by_cases h : 2 ≤ b ∧ b ≤ n
    · rw [DG_big h.1 h.2, List.length_append, List.length_singleton]
      cases k with
      | zero => simp at hn; omega
      | succ k =>
        have hq : n / b < 2 ^ k := by
          have h1 : n / b * 2 ≤ n := Nat.le_trans (Nat.mul_le_mul_left _ h.1) (Nat.div_mul_le_self n b)
          rw [Nat.pow_succ] at hn
          omega
        have := DG_len b k (n / b) hq
        omega
    · rw [DG_neg h]; simp
theorem RB.len {b N n : Nat} {S : List UInt8} (h : RB b N n S) (hN : N < 2 ^ 63) : S.length ≤ 64 := by
  have hl := DG_len b 63 N hN
  rcases Nat.eq_zero_or_pos n with g | g
  · rw [h.1 g]; exact hl
  · rw [← h.2 g, List.length_append] at hl; omega
theorem cat_eq (A S : List UInt8) : (⟨A.toArray⟩ : ByteArray) ++ ⟨S.toArray⟩ = ⟨(A ++ S).toArray⟩ := by
  apply ByteArray.ext
  simp
theorem piece_fin : ∀ m : Fin 36, (⟨#[48, 49, 50, 51, 52, 53, 54, 55, 56, 57, 97, 98, 99, 100, 101, 102, 103, 104, 105, 106, 107, 108, 109, 110, 111, 112, 113, 114, 115, 116, 117, 118, 119, 120, 121, 122]⟩ : ByteArray).extract m.val (m.val + 1) = ⟨#[dc m.val]⟩ := by decide +kernel
theorem refRadix_any (x b : Nat) (hx : x < 2 ^ 64) (hb : 2 ≤ b) (hb2 : b ≤ 36) (hok : okS x = true) (w : World) : Calls Tryd.prog 6 #[.float .f64 x, .int .i64 (b : Int)] w fun e w' => e = .returned (.tuple #[.string ⟨(sgS x ++ DG b (wh (sz x))).toArray⟩, .int .i64 0]) ∧ Below w.heap.size w w' := by
  have hCI := CS_lt
  have h1 : sz x ≤ CS := by unfold okS at hok; rw [Bool.and_eq_true, decide_eq_true_eq] at hok; exact hok.1
  have h2 : decide (2 ^ 1074 ∣ vl (sz x)) = true := by unfold okS at hok; rw [Bool.and_eq_true] at hok; exact hok.2
  have HF := fun w => finite_any x hx w
  rw [decide_eq_true (show sz x < INF by omega)] at HF
  have HI := fun w => isWhole_any x hx (by omega) w
  rw [h2] at HI
  have HW := fun w => whole_any x hx (by omega) h2 w
  have hwl : wh (sz x) ≤ 9007199254740991 := by
    have hv : vl (sz x) ≤ vl CS := vl_le.2 h1
    have e : wh CS = 9007199254740991 := by decide +kernel
    rw [← e]
    exact Nat.div_le_div_right hv
  have HG := fun w => sign_any x hx w
  clear hok h2 h1
  generalize wh (sz x) = N at *
  go_enter Tryd.func6, Tryd.ntmps6
  go_wp2_with fail
  refine (HF _).mono ?_
  rintro e w' ⟨rfl, rfl⟩
  go_wp2_with fail
  refine (HI _).mono ?_
  rintro e w' ⟨rfl, rfl⟩
  go_wp2_with fail
  refine (HW _).mono ?_
  rintro e w' ⟨n, ok, rfl, hk1, hk2, hn64, rfl⟩
  have hok : ok = true := by
    cases ok
    · have := hk2 rfl; omega
    · rfl
  have hnN : n = N := hk1 hok
  subst hok hnN
  have hn' : ¬ ((9007199254740991 : Int) < (n : Int)) := by omega
  clear hk1 hk2
  have hb0 : ¬ (b = 0) := by omega
  have hwb : IntKind.u64.wrap (b : Int) = (b : Int) := by rw [IntKind.wrap_u64]; omega
  have hmb : (n : Int) % (b : Int) = ((n % b : Nat) : Int) := by simp
  have hml : n % b < b := Nat.mod_lt _ (by omega)
  have hst := RB.start b n hb
  have HST : Hid (RB b n (n / b) [dc (n % b)]) := ⟨hst⟩
  have hmd : (n : Int) / (b : Int) = ((n / b : Nat) : Int) := by simp
  have hqn : n / b ≤ n := Nat.div_le_self _ _
  generalize n % b = m at *
  generalize n / b = q at *
  have hw1 : IntKind.u64.wrap ((m : Int) + 1) = (m : Int) + 1 := by rw [IntKind.wrap_u64]; omega
  clear hst
  have hi0 : (0 : Int) ≤ (m : Int) := by omega
  have hi1 : (m : Int) ≤ (m : Int) + 1 := by omega
  have hi2 : (m : Int) + 1 ≤ 36 := by omega
  have hpc : ∀ m : Nat, m < 36 → (⟨#[48, 49, 50, 51, 52, 53, 54, 55, 56, 57, 97, 98, 99, 100, 101, 102, 103, 104, 105, 106, 107, 108, 109, 110, 111, 112, 113, 114, 115, 116, 117, 118, 119, 120, 121, 122]⟩ : ByteArray).extract m (m + 1) = ⟨#[dc m]⟩ := fun m h => piece_fin ⟨m, h⟩
  have hLs : (⟨#[48, 49, 50, 51, 52, 53, 54, 55, 56, 57, 97, 98, 99, 100, 101, 102, 103, 104, 105, 106, 107, 108, 109, 110, 111, 112, 113, 114, 115, 116, 117, 118, 119, 120, 121, 122]⟩ : ByteArray).size = 36 := by decide
  go_wp2
  generalize (⟨#[48, 49, 50, 51, 52, 53, 54, 55, 56, 57, 97, 98, 99, 100, 101, 102, 103, 104, 105, 106, 107, 108, 109, 110, 111, 112, 113, 114, 115, 116, 117, 118, 119, 120, 121, 122]⟩ : ByteArray) = L at *
  have hpm := hpc m (by omega)
  have hsl : ∀ W, (Instr.slice 9 (.string L) (some (.int .u64 (m : Int))) (some (.int .u64 ((m : Int) + 1))) none).run Tryd.prog W = .ok (.string ⟨#[dc m]⟩) W := fun W => by
    rw [run_slice_string W 9 L .u64 .u64 (m : Int) ((m : Int) + 1) Tryd.underlying9 (by omega) (by omega) (by rw [hLs]; omega), ← hpm]
    congr 3
  have HPC : Hid (∀ m : Nat, m < 36 → L.extract m (m + 1) = ⟨#[dc m]⟩) := ⟨hpc⟩
  clear hpc hsl
  have k0 : (0 : Int) ≤ (m : Int) := by omega
  have k1 : (0 : Int) ≤ (m : Int) + 1 := by omega
  have k2 : (m : Int) + 1 ≤ (L.size : Int) := by rw [hLs]; omega
  have k3 : (m : Int) ≤ (m : Int) + 1 := by omega
  have kc1 : (0 ≤ (m : Int) + 1 ∧ (m : Int) + 1 ≤ (L.size : Int)) = True := by simp only [k1, k2, and_self]
  clear hi0 hi1 hi2
  have HLS : Hid (L.size = 36) := ⟨hLs⟩
  clear hLs
  go_big_region
  go_wp2
  go_loopw [6, 9] (fun nv sv wr => ∃ (v : Nat) (S : List UInt8) (t : Nat), nv = .int .u64 (v : Int) ∧ sv = .string ⟨S.toArray⟩ ∧ RB b n v S ∧ v ≤ n ∧ wr = w'.drewN t) (fun nv _ _ => (intOf nv).toNat)
  case atStart => exact ⟨q, [dc m], 1, rfl, rfl, HST.it, by omega, rfl⟩
  case round =>
    obtain ⟨v, S, t, rfl, rfl, hRB, hvn, rfl⟩ := hrel
    by_cases hv : 0 < v
    · have hstep := hRB.step hb hv
      have HS2 : Hid (RB b n (v / b) (dc (v % b) :: S)) := ⟨hstep⟩
      have hmb2 : (v : Int) % (b : Int) = ((v % b : Nat) : Int) := by simp
      have hmd2 : (v : Int) / (b : Int) = ((v / b : Nat) : Int) := by simp
      have hml2 : v % b < b := Nat.mod_lt _ (by omega)
      have hqv : v / b < v := Nat.div_lt_self (by omega) (by omega)
      generalize v % b = m2 at *
      generalize v / b = q2 at *
      have hpm2 := HPC.it m2 (by omega)
      have hw2 : IntKind.u64.wrap ((m2 : Int) + 1) = (m2 : Int) + 1 := by rw [IntKind.wrap_u64]; omega
      have k1' : (0 : Int) ≤ (m2 : Int) + 1 := by omega
      have k2' : (m2 : Int) + 1 ≤ (L.size : Int) := by rw [HLS.it]; omega
      have k3' : (m2 : Int) ≤ (m2 : Int) + 1 := by omega
      have k0' : (0 : Int) ≤ (m2 : Int) := by omega
      have hSl := hRB.len (by omega)
      have hcat := fun W => run_string_add_lists (P := Tryd.prog) W [dc m2] S (by simp) (by omega)
      clear hstep hRB
      go_wp2
      go_big_region
      go_wp2
      go_roundw
      case rel => exact ⟨q2, dc m2 :: S, t + 1, rfl, rfl, HS2.it, by omega, rfl⟩
      · simp [intOf]; omega
    · have hv0 : v = 0 := by omega
      subst hv0
      have HS3 : Hid (S = DG b n) := ⟨hRB.1 rfl⟩
      have hSl := hRB.len (by omega)
      have hgl : (sgS x).length ≤ 1 := by unfold sgS; split <;> simp
      clear hRB
      go_wp2_with fail
      refine (HG _).mono ?_
      rintro e w2 ⟨rfl, rfl⟩
      go_wp2
      go_ret2
      exact ⟨rt (by rw [cat_eq, HS3.it]; rfl) rfl, below_drewN (Below.refl _ _) t⟩
end Go.Proofs.YtclahchmdcgdhaaDoor
