import Derived.Test.YtclahchmdcgdhaaDoorRa
import Derived.Test.YtclahchmdcgdhaaDoorShelf
import Derived.Below
import Derived.Lib.ItoaMem
namespace Go.Proofs.YtclahchmdcgdhaaDoor
open Go.RowKit FM

/-- A digit's letter, and the digits of a number to a base, the greatest place first. -/
def dc (k : Nat) : UInt8 := if k < 10 then UInt8.ofNat (48 + k) else UInt8.ofNat (87 + k)
def DGf (b : Nat) : Nat → Nat → List UInt8
  | 0, n => [dc n]
  | f + 1, n => if 2 ≤ b ∧ b ≤ n then DGf b f (n / b) ++ [dc (n % b)] else [dc n]
def DG (b n : Nat) : List UInt8 := DGf b n n
theorem DGf_neg {b n : Nat} (f : Nat) (h : ¬ (2 ≤ b ∧ b ≤ n)) : DGf b f n = [dc n] := by
  cases f with
  | zero => rfl
  | succ f => unfold DGf; rw [if_neg h]
theorem DGf_eq (b : Nat) : ∀ f g n : Nat, n ≤ f → n ≤ g → DGf b f n = DGf b g n
  | f, g, n, hf, hg => by
    by_cases h : 2 ≤ b ∧ b ≤ n
    · obtain ⟨f', rfl⟩ : ∃ f', f = f' + 1 := ⟨f - 1, by omega⟩
      obtain ⟨g', rfl⟩ : ∃ g', g = g' + 1 := ⟨g - 1, by omega⟩
      have hq : n / b < n := Nat.div_lt_self (by omega) (by omega)
      unfold DGf
      rw [if_pos h, if_pos h, DGf_eq b f' g' (n / b) (by omega) (by omega)]
    · rw [DGf_neg f h, DGf_neg g h]
theorem DG_neg {b n : Nat} (h : ¬ (2 ≤ b ∧ b ≤ n)) : DG b n = [dc n] := DGf_neg n h
theorem DG_big {b n : Nat} (h : 2 ≤ b) (h' : b ≤ n) : DG b n = DG b (n / b) ++ [dc (n % b)] := by
  have hq : n / b < n := Nat.div_lt_self (by omega) (by omega)
  obtain ⟨k, rfl⟩ : ∃ k, n = k + 1 := ⟨n - 1, by omega⟩
  unfold DG
  rw [DGf, if_pos ⟨h, h'⟩, DGf_eq b k ((k + 1) / b) ((k + 1) / b) (by omega) (Nat.le_refl _)]
theorem DG_small {b n : Nat} (h : n < b) : DG b n = [dc n] := DG_neg (by omega)

theorem zero54 : ∃ Z : Array Value, (∀ j, j < 65 → Z[j]? = some (.int .u8 0)) ∧ ∀ w, (zeroValue 54).run Tryd.prog w = .ok (.agg Z) w := by
  refine ⟨Array.replicate 65 (.int .u8 0), fun j hj => ?_, fun w => by kernel_rfl⟩
  rw [Array.getElem?_replicate, if_pos hj]

/-- The array of formatBits: its cells may be written, and its last ones are the digits so far. -/
structure Arr (B : Nat) (D : List UInt8) (wr : World) : Prop where
  cells : ∀ j, j < 65 → ∃ c, wr.cell? ⟨B, j, none⟩ = some c
  froz : ∀ j, wr.frozen? ⟨B, j, none⟩ = false
  dig : ∀ t, (h : t < D.length) → wr.cell? ⟨B, 65 - D.length + t, none⟩ = some (.int .u8 (D[t].toNat : Int))
theorem Arr.push {B : Nat} {D : List UInt8} {wr : World} (h : Arr B D wr) (d : UInt8) (k : Nat) (hk : k + D.length + 1 = 65) : Arr B (d :: D) (wr.setCell ⟨B, k, none⟩ (.int .u8 (d.toNat : Int))) := by
  obtain ⟨c, hc⟩ := h.cells k (by omega)
  refine ⟨fun j hj => ?_, fun j => ?_, fun t ht => ?_⟩
  · by_cases e : j = k
    · subst e; exact ⟨_, World.cell?_setCell_same _ _ _ hc⟩
    · obtain ⟨c', hc'⟩ := h.cells j hj
      exact ⟨c', by rw [World.cell?_setCell_other _ _ _ _ (by simp)]; exact hc'⟩
  · rw [World.frozen?_setCell]; exact h.froz j
  · cases t with
    | zero =>
      have : 65 - (d :: D).length + 0 = k := by simp; omega
      rw [this]
      exact World.cell?_setCell_same _ _ _ hc
    | succ t =>
      have ht' : t < D.length := by simpa using ht
      have e : 65 - (d :: D).length + (t + 1) = 65 - D.length + t := by simp; omega
      rw [e, World.cell?_setCell_other _ _ _ _ (by simp only [ne_eq, Addr.mk.injEq, not_and]; omega), List.getElem_cons_succ]
      exact h.dig t ht'
theorem Arr.start (w : World) (Z : Array Value) (hZ : ∀ j, j < 65 → Z[j]? = some (.int .u8 0)) : Arr w.heap.size [] (w.alloc (.cells Z 54)) := by
  refine ⟨fun j hj => ⟨_, by rw [World.cell?_alloc_new]; exact hZ j hj⟩, fun j => World.frozen?_alloc_new _ _ _ _, fun t h => by simp at h⟩
/-- The inner state of the loop. -/
structure FB (b u : Nat) (v : Nat) (D : List UInt8) : Prop where
  one : D.length = 0 ∨ 1 ≤ v
  le : v * 2 ^ D.length ≤ u
  is : DG b v ++ D = DG b u
theorem FB.len {b u v : Nat} {D : List UInt8} (h : FB b u v D) (hu : u < 2 ^ 63) : D.length ≤ 62 := by
  rcases h.one with g | g
  · omega
  · have h1 : 2 ^ D.length ≤ u := Nat.le_trans (Nat.le_mul_of_pos_left _ g) h.le
    have h2 : 2 ^ D.length < 2 ^ 63 := by omega
    have := (Nat.pow_lt_pow_iff_right (a := 2) (by decide)).1 h2
    omega
theorem FB.step {b u v : Nat} {D : List UInt8} (h : FB b u v D) (hb : 2 ≤ b) (hv : b ≤ v) : FB b u (v / b) (dc (v % b) :: D) := by
  refine ⟨.inr ?_, ?_, ?_⟩
  · exact Nat.div_pos hv (by omega)
  · have h1 : v / b * 2 ≤ v := Nat.le_trans (Nat.mul_le_mul_left _ hb) (Nat.div_mul_le_self v b)
    rw [List.length_cons, Nat.pow_succ, Nat.mul_comm (2 ^ D.length), ← Nat.mul_assoc]
    exact Nat.le_trans (Nat.mul_le_mul_right _ h1) h.le
  · rw [← h.is, DG_big hb hv, List.append_assoc]; rfl
theorem FB.last {b u v : Nat} {D : List UInt8} (h : FB b u v D) (hv : v < b) : dc v :: D = DG b u := by
  rw [← h.is, DG_small hv]; rfl

theorem letter_fin : ∀ m : Fin 36, ((⟨#[48, 49, 50, 51, 52, 53, 54, 55, 56, 57, 97, 98, 99, 100, 101, 102, 103, 104, 105, 106, 107, 108, 109, 110, 111, 112, 113, 114, 115, 116, 117, 118, 119, 120, 121, 122]⟩ : ByteArray)[m.val]'(by have := m.isLt; exact this)) = dc m.val := by decide
theorem letter (m : Nat) (h : m < (⟨#[48, 49, 50, 51, 52, 53, 54, 55, 56, 57, 97, 98, 99, 100, 101, 102, 103, 104, 105, 106, 107, 108, 109, 110, 111, 112, 113, 114, 115, 116, 117, 118, 119, 120, 121, 122]⟩ : ByteArray).size) : (⟨#[48, 49, 50, 51, 52, 53, 54, 55, 56, 57, 97, 98, 99, 100, 101, 102, 103, 104, 105, 106, 107, 108, 109, 110, 111, 112, 113, 114, 115, 116, 117, 118, 119, 120, 121, 122]⟩ : ByteArray)[m] = dc m := letter_fin ⟨m, h⟩
theorem slice54 (B k : Nat) (hk : k < 65) (W : World) : (Instr.sliceAt 54 (.pointer (some ⟨B, 0, none⟩)) (some (.int .i64 (k : Int))) none none).run Tryd.prog W = .ok (.slice (some ⟨B, k, none⟩) (65 - k) (65 - k)) W := by
  have hal : Tryd.prog.arrayLen 54 = 65 := by kernel_rfl
  rw [run_sliceAt_array_l (P := Tryd.prog) W 54 ⟨B, 0, none⟩ (by simp [Program.arrayLen, Program.elem, Tryd.underlying54]) .i64 (k : Int) (by omega) (by rw [hal]; omega)]
  go_simp
  omega
theorem str54 {B : Nat} {D : List UInt8} {W : World} (h : Arr B D W) (k : Nat) (hk : k + D.length = 65) : (convert 45 9 (.slice (some ⟨B, k, none⟩) (65 - k) (65 - k))).run Tryd.prog W = .ok (.string ⟨D.toArray⟩) W := by
  have e : 65 - k = D.length := by omega
  rw [e]
  refine run_convert_bytes_back (P := Tryd.prog) W 45 9 5 ⟨B, k, none⟩ D.length D Tryd.underlying45 Tryd.underlying5 Tryd.underlying9 (fun j hj => ?_)
  rw [Lib.add_plain, ← h.dig j hj]
  congr 2; omega
theorem pow2_any (b : Nat) (p : Bool) (hb : 2 ≤ b) (hb2 : b ≤ 36) (hp : (bits BinOp.and IntKind.i64 (b : Int) ((b : Int) - 1) == 0) = p) (w : World) : Calls Tryd.prog 32 #[.int .i64 (b : Int)] w fun e w' => e = .returned (.bool p) ∧ w' = w := by
  go_enter Tryd.func32, Tryd.ntmps32
  go_wp2
  go_ret
  exact ⟨rfl, rfl⟩
theorem fbGen (u b : Nat) (hu : u < 2 ^ 63) (hb : 2 ≤ b) (hb2 : b ≤ 36) (hb3 : b ≠ 10) (hp : bits BinOp.and IntKind.i64 (b : Int) ((b : Int) - 1) ≠ 0) (w : World) : Calls Tryd.prog 27 #[.slice none 0 0, .int .u64 (u : Int), .int .i64 (b : Int), .bool false, .bool false] w fun e w' => e = .returned (.tuple #[.slice none 0 0, .string ⟨(DG b u).toArray⟩]) ∧ Below w.heap.size w w' := by
  have h1 : ((b : Int) == 10) = false := by simp; omega
  obtain ⟨Z, hZ, hzr⟩ := zero54
  have hp' : (bits BinOp.and IntKind.i64 (b : Int) ((b : Int) - 1) == 0) = false := by simpa using hp
  have hA0 := Arr.start w Z hZ
  have hB0 : Below w.heap.size w (w.alloc (.cells Z 54)) := (Below.refl _ w).alloc (Nat.le_refl _) _
  generalize hBB : w.heap.size = B at *
  have HP := fun w => pow2_any b false hb hb2 hp' w
  clear hp hp'
  go_enter Tryd.func27, Tryd.ntmps27
  go_wp2_with fail
  refine (HP _).mono ?_
  rintro e w' ⟨rfl, rfl⟩
  go_wp2
  go_loopw [1, 13] (fun uv iv wr => ∃ (v i : Nat) (D : List UInt8), uv = .int .u64 (v : Int) ∧ iv = .int .i64 (i : Int) ∧ i + D.length = 65 ∧ FB b u v D ∧ Arr B D wr ∧ Below B w wr) (fun uv _ _ => (intOf uv).toNat)
  case atStart => exact ⟨u, 65, [], rfl, rfl, rfl, ⟨.inl rfl, by simp, by simp⟩, hA0, hB0⟩
  case round =>
    obtain ⟨v, i, D, rfl, rfl, hi, hF, hA, hBw⟩ := hrel
    have hlen := hF.len hu
    have hvu : v < 2 ^ 63 := by
      have h2 : 1 ≤ 2 ^ D.length := Nat.one_le_two_pow
      have h3 : v ≤ v * 2 ^ D.length := Nat.le_mul_of_pos_right _ h2
      have := hF.le
      omega
    obtain ⟨k, rfl⟩ : ∃ k, i = k + 1 := ⟨i - 1, by omega⟩
    obtain ⟨c, hc⟩ := hA.cells k (by omega)
    have hf := hA.froz k
    by_cases hv : b ≤ v
    · have hk1 : (0 : Int) ≤ (k : Int) := by omega
      have hk2 : (k : Int) < 65 := by omega
      have hstep := hF.step hb hv
      have hq : (v : Int) / (b : Int) = ((v / b : Nat) : Int) := by simp
      have hqb : v / b * b ≤ v := Nat.div_mul_le_self v b
      have hmm : v - v / b * b = v % b := by rw [Nat.mod_eq_sub_div_mul]
      have hml : v % b < b := Nat.mod_lt _ (by omega)
      have hqv : v / b < v := Nat.div_lt_self (by omega) (by omega)
      generalize v / b = q at *
      generalize hme : v % b = m at *
      have hm1 : IntKind.u64.wrap ((q : Int) * (b : Int)) = (q : Int) * (b : Int) := by
        rw [IntKind.wrap_u64]
        have : ((q * b : Nat) : Int) = (q : Int) * (b : Int) := by simp
        omega
      have hm2 : (v : Int) - (q : Int) * (b : Int) = (m : Int) := by
        have : ((q * b : Nat) : Int) = (q : Int) * (b : Int) := by simp
        omega
      have HS : Hid (FB b u q (dc m :: D)) := ⟨hstep⟩
      clear hme hmm hstep
      go_wp2
      go_roundw
      case rel =>
        refine ⟨q, k, dc m :: D, rfl, rfl, by simp; omega, HS.it, ?_, ?_⟩
        · rw [letter]; exact hA.push (dc m) k (by omega)
        · exact hBw.setCell (p := ⟨B, k, none⟩) (Nat.le_refl _) _
      · simp [intOf]; omega
    · have hv' : ¬ ((b : Int) ≤ (v : Int)) := by omega
      have hlast := hF.last (by omega)
      have hk1 : (0 : Int) ≤ (k : Int) := by omega
      have hk2 : (k : Int) < 65 := by omega
      have hA' := hA.push (dc v) k (by omega)
      have hsl := fun W => slice54 B k (by omega) W
      have hA'' : Arr B (DG b u) (wr.setCell ⟨B, k, none⟩ (.int .u8 ((dc v).toNat : Int))) := by rw [← hlast]; exact hA'
      have hcv : Hid _ := ⟨str54 hA'' k (by rw [← hlast]; simp; omega)⟩
      clear hA' hA'' hlast
      go_wp2
      rw [letter, hcv.it]
      go_wp2
      go_ret2
      exact ⟨rfl, hBw.setCell (p := ⟨B, k, none⟩) (Nat.le_refl _) _⟩
theorem fbGenNeg (u b : Nat) (hu : u < 2 ^ 63) (hu0 : 0 < u) (hb : 2 ≤ b) (hb2 : b ≤ 36) (hb3 : b ≠ 10) (hp : bits BinOp.and IntKind.i64 (b : Int) ((b : Int) - 1) ≠ 0) (w : World) : Calls Tryd.prog 27 #[.slice none 0 0, .int .u64 (18446744073709551616 - (u : Int)), .int .i64 (b : Int), .bool true, .bool false] w fun e w' => e = .returned (.tuple #[.slice none 0 0, .string ⟨(45 :: DG b u).toArray⟩]) ∧ Below w.heap.size w w' := by
  have hng : IntKind.u64.wrap (-(18446744073709551616 - (u : Int))) = (u : Int) := by rw [IntKind.wrap_u64]; omega
  have h1 : ((b : Int) == 10) = false := by simp; omega
  obtain ⟨Z, hZ, hzr⟩ := zero54
  have hp' : (bits BinOp.and IntKind.i64 (b : Int) ((b : Int) - 1) == 0) = false := by simpa using hp
  have hA0 := Arr.start w Z hZ
  have hB0 : Below w.heap.size w (w.alloc (.cells Z 54)) := (Below.refl _ w).alloc (Nat.le_refl _) _
  generalize hBB : w.heap.size = B at *
  have HP := fun w => pow2_any b false hb hb2 hp' w
  clear hp hp'
  go_enter Tryd.func27, Tryd.ntmps27
  go_wp2_with fail
  refine (HP _).mono ?_
  rintro e w' ⟨rfl, rfl⟩
  go_wp2
  go_loopw [1, 13] (fun uv iv wr => ∃ (v i : Nat) (D : List UInt8), uv = .int .u64 (v : Int) ∧ iv = .int .i64 (i : Int) ∧ i + D.length = 65 ∧ FB b u v D ∧ Arr B D wr ∧ Below B w wr) (fun uv _ _ => (intOf uv).toNat)
  case atStart => exact ⟨u, 65, [], rfl, rfl, rfl, ⟨.inl rfl, by simp, by simp⟩, hA0, hB0⟩
  case round =>
    obtain ⟨v, i, D, rfl, rfl, hi, hF, hA, hBw⟩ := hrel
    have hlen := hF.len hu
    have hvu : v < 2 ^ 63 := by
      have h2 : 1 ≤ 2 ^ D.length := Nat.one_le_two_pow
      have h3 : v ≤ v * 2 ^ D.length := Nat.le_mul_of_pos_right _ h2
      have := hF.le
      omega
    obtain ⟨k, rfl⟩ : ∃ k, i = k + 1 := ⟨i - 1, by omega⟩
    obtain ⟨c, hc⟩ := hA.cells k (by omega)
    have hf := hA.froz k
    by_cases hv : b ≤ v
    · have hk1 : (0 : Int) ≤ (k : Int) := by omega
      have hk2 : (k : Int) < 65 := by omega
      have hstep := hF.step hb hv
      have hq : (v : Int) / (b : Int) = ((v / b : Nat) : Int) := by simp
      have hqb : v / b * b ≤ v := Nat.div_mul_le_self v b
      have hmm : v - v / b * b = v % b := by rw [Nat.mod_eq_sub_div_mul]
      have hml : v % b < b := Nat.mod_lt _ (by omega)
      have hqv : v / b < v := Nat.div_lt_self (by omega) (by omega)
      generalize v / b = q at *
      generalize hme : v % b = m at *
      have hm1 : IntKind.u64.wrap ((q : Int) * (b : Int)) = (q : Int) * (b : Int) := by
        rw [IntKind.wrap_u64]
        have : ((q * b : Nat) : Int) = (q : Int) * (b : Int) := by simp
        omega
      have hm2 : (v : Int) - (q : Int) * (b : Int) = (m : Int) := by
        have : ((q * b : Nat) : Int) = (q : Int) * (b : Int) := by simp
        omega
      have HS : Hid (FB b u q (dc m :: D)) := ⟨hstep⟩
      clear hme hmm hstep
      go_wp2
      go_roundw
      case rel =>
        refine ⟨q, k, dc m :: D, rfl, rfl, by simp; omega, HS.it, ?_, ?_⟩
        · rw [letter]; exact hA.push (dc m) k (by omega)
        · exact hBw.setCell (p := ⟨B, k, none⟩) (Nat.le_refl _) _
      · simp [intOf]; omega
    · have hv' : ¬ ((b : Int) ≤ (v : Int)) := by omega
      have hlast := hF.last (by omega)
      have hk1 : (0 : Int) ≤ (k : Int) := by omega
      have hk2 : (k : Int) < 65 := by omega
      have hA' := hA.push (dc v) k (by omega)
      have hlk := hF.len hu
      obtain ⟨l, rfl⟩ : ∃ l, k = l + 1 := ⟨k - 1, by omega⟩
      have hsl := fun W => slice54 B l (by omega) W
      have hA1 : Arr B (DG b u) (wr.setCell ⟨B, l + 1, none⟩ (.int .u8 ((dc v).toNat : Int))) := by rw [← hlast]; exact hA'
      have hlenD : (DG b u).length + (l + 1) = 65 := by rw [← hlast]; simp; omega
      have hA2 := hA1.push 45 l (by omega)
      have hcv : Hid ((convert 45 9 (.slice (some ⟨B, l, none⟩) (65 - l) (65 - l))).run Tryd.prog ((wr.setCell ⟨B, l + 1, none⟩ (.int .u8 ((dc v).toNat : Int))).setCell ⟨B, l, none⟩ (.int .u8 45)) = .ok (.string ⟨(45 :: DG b u).toArray⟩) ((wr.setCell ⟨B, l + 1, none⟩ (.int .u8 ((dc v).toNat : Int))).setCell ⟨B, l, none⟩ (.int .u8 45))) := ⟨str54 hA2 l (by simp; omega)⟩
      obtain ⟨c2, hc2⟩ := hA1.cells l (by omega)
      have hf2 := hA1.froz l
      have hl1 : (0 : Int) ≤ (l : Int) := by omega
      have hl2 : (l : Int) < 65 := by omega
      have hBl : Below B w ((wr.setCell ⟨B, l + 1, none⟩ (.int .u8 ((dc v).toNat : Int))).setCell ⟨B, l, none⟩ (.int .u8 45)) := (hBw.setCell (p := ⟨B, l + 1, none⟩) (Nat.le_refl _) _).setCell (p := ⟨B, l, none⟩) (Nat.le_refl _) _
      have hlet := letter v (by show v < 36; omega)
      have HBL : Hid _ := ⟨hBl⟩
      clear hA' hA1 hA2 hlast hBl
      go_wp2
      rw [hcv.it]
      go_wp2
      go_ret2
      exact ⟨rfl, HBL.it⟩
theorem fbPow (u b s : Nat) (hu : u < 2 ^ 63) (hb : 2 ≤ b) (hb2 : b ≤ 36) (hb3 : b ≠ 10) (hs : Hid (b = 2 ^ s)) (hs5 : s ≤ 5) (hp : bits BinOp.and IntKind.i64 (b : Int) ((b : Int) - 1) = 0) (w : World) (HT : ∀ w', Below w.heap.size w w' → Calls Tryd.prog 33 #[.int .u64 (b : Int)] w' fun e w2 => e = .returned (.int .i64 (s : Int)) ∧ w2 = w') : Calls Tryd.prog 27 #[.slice none 0 0, .int .u64 (u : Int), .int .i64 (b : Int), .bool false, .bool false] w fun e w' => e = .returned (.tuple #[.slice none 0 0, .string ⟨(DG b u).toArray⟩]) ∧ Below w.heap.size w w' := by
  have h1 : ((b : Int) == 10) = false := by simp; omega
  obtain ⟨Z, hZ, hzr⟩ := zero54
  have hp' : (bits BinOp.and IntKind.i64 (b : Int) ((b : Int) - 1) == 0) = true := by simpa using hp
  have hA0 := Arr.start w Z hZ
  have hB0 : Below w.heap.size w (w.alloc (.cells Z 54)) := (Below.refl _ w).alloc (Nat.le_refl _) _
  generalize hBB : w.heap.size = B at *
  have HP := fun w => pow2_any b true hb hb2 hp' w
  clear hp hp'
  go_enter Tryd.func27, Tryd.ntmps27
  go_wp2_with fail
  refine (HP _).mono ?_
  rintro e w' ⟨rfl, rfl⟩
  go_wp2_with fail
  refine (HT _ hB0).mono ?_
  rintro e w' ⟨rfl, rfl⟩
  go_wp2
  go_loopw [1, 13] (fun uv iv wr => ∃ (v i : Nat) (D : List UInt8), uv = .int .u64 (v : Int) ∧ iv = .int .i64 (i : Int) ∧ i + D.length = 65 ∧ FB b u v D ∧ Arr B D wr ∧ Below B w wr) (fun uv _ _ => (intOf uv).toNat)
  case atStart => exact ⟨u, 65, [], rfl, rfl, rfl, ⟨.inl rfl, by simp, by simp⟩, hA0, hB0⟩
  case round =>
    obtain ⟨v, i, D, rfl, rfl, hi, hF, hA, hBw⟩ := hrel
    have hlen := hF.len hu
    have hvu : v < 2 ^ 63 := by
      have h2 : 1 ≤ 2 ^ D.length := Nat.one_le_two_pow
      have h3 : v ≤ v * 2 ^ D.length := Nat.le_mul_of_pos_right _ h2
      have := hF.le
      omega
    obtain ⟨k, rfl⟩ : ∃ k, i = k + 1 := ⟨i - 1, by omega⟩
    obtain ⟨c, hc⟩ := hA.cells k (by omega)
    have hf := hA.froz k
    by_cases hv : b ≤ v
    · have hk1 : (0 : Int) ≤ (k : Int) := by omega
      have hk2 : (k : Int) < 65 := by omega
      have hstep := hF.step hb hv
      have hq : (v : Int) / 2 ^ s = ((v / b : Nat) : Int) := by
        have hsb : (b : Int) = 2 ^ s := by rw [hs.it]; simp
        rw [← hsb]; simp
      have hand : bits BinOp.and IntKind.u64 (v : Int) ((b : Int) - 1) = ((v % b : Nat) : Int) := by
        have h := u64_and_nat v (b - 1) (by omega) (by omega)
        have e1 : v &&& (b - 1) = v % b := by rw [hs.it]; exact Nat.and_two_pow_sub_one_eq_mod v s
        rw [e1] at h
        rw [show (b : Int) - 1 = ((b - 1 : Nat) : Int) by omega]
        exact h
      have hml : v % b < b := Nat.mod_lt _ (by omega)
      have hqv : v / b < v := Nat.div_lt_self (by omega) (by omega)
      generalize v / b = q at *
      generalize hme : v % b = m at *
      have HS : Hid (FB b u q (dc m :: D)) := ⟨hstep⟩
      clear hme hstep
      go_wp2
      go_roundw
      case rel =>
        refine ⟨q, k, dc m :: D, rfl, rfl, by simp; omega, HS.it, ?_, ?_⟩
        · rw [letter]; exact hA.push (dc m) k (by omega)
        · exact hBw.setCell (p := ⟨B, k, none⟩) (Nat.le_refl _) _
      · simp [intOf]; omega
    · have hv' : ¬ ((b : Int) ≤ (v : Int)) := by omega
      have hlast := hF.last (by omega)
      have hk1 : (0 : Int) ≤ (k : Int) := by omega
      have hk2 : (k : Int) < 65 := by omega
      have hA' := hA.push (dc v) k (by omega)
      have hsl := fun W => slice54 B k (by omega) W
      have hA'' : Arr B (DG b u) (wr.setCell ⟨B, k, none⟩ (.int .u8 ((dc v).toNat : Int))) := by rw [← hlast]; exact hA'
      have hcv : Hid _ := ⟨str54 hA'' k (by rw [← hlast]; simp; omega)⟩
      clear hA' hA'' hlast
      go_wp2
      rw [letter, hcv.it]
      go_wp2
      go_ret2
      exact ⟨rfl, hBw.setCell (p := ⟨B, k, none⟩) (Nat.le_refl _) _⟩
theorem fbPowNeg (u b s : Nat) (hu : u < 2 ^ 63) (hu0 : 0 < u) (hb : 2 ≤ b) (hb2 : b ≤ 36) (hb3 : b ≠ 10) (hs : Hid (b = 2 ^ s)) (hs5 : s ≤ 5) (hp : bits BinOp.and IntKind.i64 (b : Int) ((b : Int) - 1) = 0) (w : World) (HT : ∀ w', Below w.heap.size w w' → Calls Tryd.prog 33 #[.int .u64 (b : Int)] w' fun e w2 => e = .returned (.int .i64 (s : Int)) ∧ w2 = w') : Calls Tryd.prog 27 #[.slice none 0 0, .int .u64 (18446744073709551616 - (u : Int)), .int .i64 (b : Int), .bool true, .bool false] w fun e w' => e = .returned (.tuple #[.slice none 0 0, .string ⟨(45 :: DG b u).toArray⟩]) ∧ Below w.heap.size w w' := by
  have hng : IntKind.u64.wrap (-(18446744073709551616 - (u : Int))) = (u : Int) := by rw [IntKind.wrap_u64]; omega
  have h1 : ((b : Int) == 10) = false := by simp; omega
  obtain ⟨Z, hZ, hzr⟩ := zero54
  have hp' : (bits BinOp.and IntKind.i64 (b : Int) ((b : Int) - 1) == 0) = true := by simpa using hp
  have hA0 := Arr.start w Z hZ
  have hB0 : Below w.heap.size w (w.alloc (.cells Z 54)) := (Below.refl _ w).alloc (Nat.le_refl _) _
  generalize hBB : w.heap.size = B at *
  have HP := fun w => pow2_any b true hb hb2 hp' w
  clear hp hp'
  go_enter Tryd.func27, Tryd.ntmps27
  go_wp2_with fail
  refine (HP _).mono ?_
  rintro e w' ⟨rfl, rfl⟩
  go_wp2_with fail
  refine (HT _ hB0).mono ?_
  rintro e w' ⟨rfl, rfl⟩
  go_wp2
  go_loopw [1, 13] (fun uv iv wr => ∃ (v i : Nat) (D : List UInt8), uv = .int .u64 (v : Int) ∧ iv = .int .i64 (i : Int) ∧ i + D.length = 65 ∧ FB b u v D ∧ Arr B D wr ∧ Below B w wr) (fun uv _ _ => (intOf uv).toNat)
  case atStart => exact ⟨u, 65, [], rfl, rfl, rfl, ⟨.inl rfl, by simp, by simp⟩, hA0, hB0⟩
  case round =>
    obtain ⟨v, i, D, rfl, rfl, hi, hF, hA, hBw⟩ := hrel
    have hlen := hF.len hu
    have hvu : v < 2 ^ 63 := by
      have h2 : 1 ≤ 2 ^ D.length := Nat.one_le_two_pow
      have h3 : v ≤ v * 2 ^ D.length := Nat.le_mul_of_pos_right _ h2
      have := hF.le
      omega
    obtain ⟨k, rfl⟩ : ∃ k, i = k + 1 := ⟨i - 1, by omega⟩
    obtain ⟨c, hc⟩ := hA.cells k (by omega)
    have hf := hA.froz k
    by_cases hv : b ≤ v
    · have hk1 : (0 : Int) ≤ (k : Int) := by omega
      have hk2 : (k : Int) < 65 := by omega
      have hstep := hF.step hb hv
      have hq : (v : Int) / 2 ^ s = ((v / b : Nat) : Int) := by
        have hsb : (b : Int) = 2 ^ s := by rw [hs.it]; simp
        rw [← hsb]; simp
      have hand : bits BinOp.and IntKind.u64 (v : Int) ((b : Int) - 1) = ((v % b : Nat) : Int) := by
        have h := u64_and_nat v (b - 1) (by omega) (by omega)
        have e1 : v &&& (b - 1) = v % b := by rw [hs.it]; exact Nat.and_two_pow_sub_one_eq_mod v s
        rw [e1] at h
        rw [show (b : Int) - 1 = ((b - 1 : Nat) : Int) by omega]
        exact h
      have hml : v % b < b := Nat.mod_lt _ (by omega)
      have hqv : v / b < v := Nat.div_lt_self (by omega) (by omega)
      generalize v / b = q at *
      generalize hme : v % b = m at *
      have HS : Hid (FB b u q (dc m :: D)) := ⟨hstep⟩
      clear hme hstep
      go_wp2
      go_roundw
      case rel =>
        refine ⟨q, k, dc m :: D, rfl, rfl, by simp; omega, HS.it, ?_, ?_⟩
        · rw [letter]; exact hA.push (dc m) k (by omega)
        · exact hBw.setCell (p := ⟨B, k, none⟩) (Nat.le_refl _) _
      · simp [intOf]; omega
    · have hv' : ¬ ((b : Int) ≤ (v : Int)) := by omega
      have hlast := hF.last (by omega)
      have hk1 : (0 : Int) ≤ (k : Int) := by omega
      have hk2 : (k : Int) < 65 := by omega
      have hA' := hA.push (dc v) k (by omega)
      have hlk := hF.len hu
      obtain ⟨l, rfl⟩ : ∃ l, k = l + 1 := ⟨k - 1, by omega⟩
      have hsl := fun W => slice54 B l (by omega) W
      have hA1 : Arr B (DG b u) (wr.setCell ⟨B, l + 1, none⟩ (.int .u8 ((dc v).toNat : Int))) := by rw [← hlast]; exact hA'
      have hlenD : (DG b u).length + (l + 1) = 65 := by rw [← hlast]; simp; omega
      have hA2 := hA1.push 45 l (by omega)
      have hcv : Hid ((convert 45 9 (.slice (some ⟨B, l, none⟩) (65 - l) (65 - l))).run Tryd.prog ((wr.setCell ⟨B, l + 1, none⟩ (.int .u8 ((dc v).toNat : Int))).setCell ⟨B, l, none⟩ (.int .u8 45)) = .ok (.string ⟨(45 :: DG b u).toArray⟩) ((wr.setCell ⟨B, l + 1, none⟩ (.int .u8 ((dc v).toNat : Int))).setCell ⟨B, l, none⟩ (.int .u8 45))) := ⟨str54 hA2 l (by simp; omega)⟩
      obtain ⟨c2, hc2⟩ := hA1.cells l (by omega)
      have hf2 := hA1.froz l
      have hl1 : (0 : Int) ≤ (l : Int) := by omega
      have hl2 : (l : Int) < 65 := by omega
      have hBl : Below B w ((wr.setCell ⟨B, l + 1, none⟩ (.int .u8 ((dc v).toNat : Int))).setCell ⟨B, l, none⟩ (.int .u8 45)) := (hBw.setCell (p := ⟨B, l + 1, none⟩) (Nat.le_refl _) _).setCell (p := ⟨B, l, none⟩) (Nat.le_refl _) _
      have hlet := letter v (by show v < 36; omega)
      have HBL : Hid _ := ⟨hBl⟩
      clear hA' hA1 hA2 hlast hBl
      go_wp2
      rw [hcv.it]
      go_wp2
      go_ret2
      exact ⟨rfl, HBL.it⟩
end Go.Proofs.YtclahchmdcgdhaaDoor
