import Derived.Test.YtmpdhmdmfmgamaaDoorDq
import Derived.Test.YtmpdhmdmfmgamaaDoorYa
import Derived.DeepKeys4
import Derived.ProofKit

/-! Ob -/
namespace Go.Proofs.YtmpdhmdmfmgamaaDoor
open Go Go.Proofs Go.Maps Go.RowKit
set_option linter.unusedSimpArgs false
set_option linter.unusedVariables false
/-- A key. -/
structure KK where
  s : ByteArray
  n : Int
def keyV (s : ByteArray) (n : Int) : Value := .agg #[.string s, .int .i64 n]
def KK.agg (k : KK) : Value := .agg #[.string k.s, .int .i64 k.n]
def KK.cs (k : KK) : List Value := [.string k.s, .int .i64 k.n]
theorem KK.ext' {a b : KK} (h1 : a.s = b.s) (h2 : a.n = b.n) : a = b := by cases a; cases b; cases h1; cases h2; rfl
theorem agg_key (k : KK) : keyV k.s k.n = k.agg := rfl
theorem below_alloc1 (w : World) (o : Obj) : Below w.heap.size w (w.alloc o) := (Below.refl _ _).alloc (Nat.le_refl _) _
section
attribute [local go_sem] bits_run run_store_float
/-- The value that a key is. -/
def kVal (s : ByteArray) (n : Int) : VV := if n = 0 then ⟨5, false, 0, s, 0⟩ else ⟨6, false, 0, s, n⟩
theorem kbelow2 (w : World) (o1 o2 : Obj) : Below w.heap.size w ((w.alloc o1).alloc o2) := ((Below.refl _ _).alloc (Nat.le_refl _) _).alloc (by simp) _
set_option maxRecDepth 100000 in
theorem asValue21 (s : ByteArray) (n : Int) (w : World) : Calls Tryd.prog 29 #[keyV s n] w fun e w' => e = .returned (kVal s n).agg ∧ Below w.heap.size w w' := by
  unfold keyV
  by_cases hn : n = 0
  · subst hn
    have e1 : kVal s 0 = ⟨5, false, 0, s, 0⟩ := by unfold kVal; rw [if_pos rfl]
    rw [e1]
    unfold VV.agg
    go_enter Tryd.func29, Tryd.ntmps29
    go_wp2
    simp [bodyPost, results, Tryd.results29, go_sem]
    exact kbelow2 ..
  · have e1 : kVal s n = ⟨6, false, 0, s, n⟩ := by unfold kVal; rw [if_neg hn]
    rw [e1]
    unfold VV.agg
    go_enter Tryd.func29, Tryd.ntmps29
    go_wp2
    simp [bodyPost, results, Tryd.results29, go_sem]
    exact kbelow2 ..
set_option maxRecDepth 100000 in
theorem check12 (s : ByteArray) (n : Int) (w : World) (hT : Lib.Utf8Tabs 1 2 w) : Calls Tryd.prog 21 #[keyV s n] w fun e w' => e = .returned (.int .i64 (errB (kVal s n).good)) ∧ Below w.heap.size w w' := by
  have HA := hide (fun w => asValue21 s n w)
  have HI := hide (fun w (hT : Lib.Utf8Tabs 1 2 w) => check_any (kVal s n) w hT)
  have HT := hide hT
  unfold keyV at *
  generalize (kVal s n).agg = v at *
  generalize errB (kVal s n).good = g at *
  clear hT
  go_enter Tryd.func21, Tryd.ntmps21
  go_wp2_with fail
  refine (unhide HA _).mono ?_
  rintro e w1 ⟨rfl, hb⟩
  have HB := hide (((below_alloc1 w _).trans (hb.mono (by simp))))
  clear hb
  go_wp2_with fail
  refine (unhide HI _ (tabs_below (unhide HT) (unhide HB))).mono ?_
  rintro e w2 ⟨rfl, hb2⟩
  have HB2 := hide ((unhide HB).trans (hb2.mono (unhide HB).size))
  clear hb2
  go_wp2
  go_ret
  exact ⟨rfl, unhide HB2⟩
def goodK (k : KK) : Bool := (kVal k.s k.n).good
theorem goodK_eq (k : KK) : goodK k = if k.n = 0 then decide (k.s.size ≤ 1048576) && vS k.s else decide (1 ≤ k.n) && decide (k.n ≤ 65536) && k.s.toList.isEmpty := by
  unfold goodK kVal
  by_cases h : k.n = 0
  · rw [if_pos h, if_pos h]
    simp [VV.good, goodV, inG, strV, fitV, vS]
  · rw [if_neg h, if_neg h]
    simp [VV.good, goodV, inG, strV]
    cases k.s.toList.isEmpty <;> simp
theorem goodK_size {k : KK} (h : goodK k = true) : k.s.size ≤ 1048576 := by
  rw [goodK_eq] at h
  by_cases hn : k.n = 0
  · rw [if_pos hn] at h
    simp at h
    exact h.1
  · rw [if_neg hn] at h
    simp only [Bool.and_eq_true] at h
    rw [empty_of h.2]
    decide
theorem goodK_n {k : KK} (h : goodK k = true) : 0 ≤ k.n ∧ k.n ≤ 65536 := by
  rw [goodK_eq] at h
  by_cases hn : k.n = 0
  · omega
  · rw [if_neg hn] at h
    simp at h
    omega
set_option maxHeartbeats 20000000 in
set_option maxRecDepth 100000 in
theorem refGoodK (k : KK) (w : World) : Calls Tryd.prog 25 #[k.agg] w fun e w' => e = .returned (.bool (goodK k)) ∧ Below w.heap.size w w' := by
  have LL := hide (Hq.nil w [])
  rw [goodK_eq]
  by_cases hn : k.n = 0
  · rw [if_pos hn]
    have hn2 : (k.n != 0) = false := by simp [hn]
    clear hn
    by_cases hz : k.s.size ≤ 1048576
    · have HV := hide (refValid_any k.s (by omega))
      have hz2 : (k.s.size : Int) ≤ 1048576 := by omega
      rw [decide_eq_true hz, Bool.true_and]
      generalize vS k.s = vs at *
      have hq0 : k.agg = .agg #[.string k.s, .int .i64 k.n] := rfl
      rw [hq0]
      clear hq0
      go_enter Tryd.func25, Tryd.ntmps25
      go_wp2_with (first | go_skip | ((with_reducible show wpList _ _ _ _ _ _); first | ((refine bx 41 (k.cs) (by rfl) rfl rfl rfl (Nat.succ_pos _) (unhide LL) ?_); intro X1 B1 hE1 L1 hb1; have hB1 := hide (Nat.le_trans (unhide LL).fr.size (Nat.le_of_eq hE1.symm)); replace LL := hide L1; clear L1 hb1 hE1; simp only [Act.put, List.setIfInBounds_toArray, List.set_cons_succ, List.set_cons_zero]) | ((refine rd (by rfl) (ex_load1 9 Tryd.isAgg9 rfl rfl ((unhide LL).get 0 rfl) rfl) ?_); simp only [Act.put, List.setIfInBounds_toArray, List.set_cons_succ, List.set_cons_zero]) | ((refine rd (by rfl) (ex_load1 3 Tryd.isAgg3 rfl rfl ((unhide LL).get 0 rfl) rfl) ?_); simp only [Act.put, List.setIfInBounds_toArray, List.set_cons_succ, List.set_cons_zero])))
      refine (unhide HV _).mono ?_
      rintro _ w1 ⟨rfl, hb⟩
      replace LL := hide ((unhide LL).on hb)
      clear hb
      go_wp2_with (first | go_skip | ((with_reducible show wpList _ _ _ _ _ _); first | ((refine bx 41 (k.cs) (by rfl) rfl rfl rfl (Nat.succ_pos _) (unhide LL) ?_); intro X1 B1 hE1 L1 hb1; have hB1 := hide (Nat.le_trans (unhide LL).fr.size (Nat.le_of_eq hE1.symm)); replace LL := hide L1; clear L1 hb1 hE1; simp only [Act.put, List.setIfInBounds_toArray, List.set_cons_succ, List.set_cons_zero]) | ((refine rd (by rfl) (ex_load1 9 Tryd.isAgg9 rfl rfl ((unhide LL).get 0 rfl) rfl) ?_); simp only [Act.put, List.setIfInBounds_toArray, List.set_cons_succ, List.set_cons_zero]) | ((refine rd (by rfl) (ex_load1 3 Tryd.isAgg3 rfl rfl ((unhide LL).get 0 rfl) rfl) ?_); simp only [Act.put, List.setIfInBounds_toArray, List.set_cons_succ, List.set_cons_zero])))
      go_ret
      exact ⟨rfl, (unhide LL).fr.below⟩
    · have hz2 : ¬ (k.s.size : Int) ≤ 1048576 := by omega
      rw [decide_eq_false hz, Bool.false_and]
      have hq0 : k.agg = .agg #[.string k.s, .int .i64 k.n] := rfl
      rw [hq0]
      clear hq0
      go_enter Tryd.func25, Tryd.ntmps25
      go_wp2_with (first | go_skip | ((with_reducible show wpList _ _ _ _ _ _); first | ((refine bx 41 (k.cs) (by rfl) rfl rfl rfl (Nat.succ_pos _) (unhide LL) ?_); intro X1 B1 hE1 L1 hb1; have hB1 := hide (Nat.le_trans (unhide LL).fr.size (Nat.le_of_eq hE1.symm)); replace LL := hide L1; clear L1 hb1 hE1; simp only [Act.put, List.setIfInBounds_toArray, List.set_cons_succ, List.set_cons_zero]) | ((refine rd (by rfl) (ex_load1 9 Tryd.isAgg9 rfl rfl ((unhide LL).get 0 rfl) rfl) ?_); simp only [Act.put, List.setIfInBounds_toArray, List.set_cons_succ, List.set_cons_zero]) | ((refine rd (by rfl) (ex_load1 3 Tryd.isAgg3 rfl rfl ((unhide LL).get 0 rfl) rfl) ?_); simp only [Act.put, List.setIfInBounds_toArray, List.set_cons_succ, List.set_cons_zero])))
      go_ret
      exact ⟨rfl, (unhide LL).fr.below⟩
  · rw [if_neg hn]
    have hn2 : (k.n != 0) = true := by simp [hn]
    have hn3 : (k.n == 0) = false := by simp [hn]
    clear hn
    by_cases h1 : 1 ≤ k.n
    · rw [decide_eq_true h1, Bool.true_and]
      by_cases h2 : k.n ≤ 65536
      · rw [decide_eq_true h2, Bool.true_and]
        have he : (k.s.toList == []) = k.s.toList.isEmpty := by cases k.s.toList <;> rfl
        generalize hem : k.s.toList.isEmpty = em at *
        have hq0 : k.agg = .agg #[.string k.s, .int .i64 k.n] := rfl
        rw [hq0]
        clear hq0
        go_enter Tryd.func25, Tryd.ntmps25
        go_wp2_with (first | go_skip | ((with_reducible show wpList _ _ _ _ _ _); first | ((refine bx 41 (k.cs) (by rfl) rfl rfl rfl (Nat.succ_pos _) (unhide LL) ?_); intro X1 B1 hE1 L1 hb1; have hB1 := hide (Nat.le_trans (unhide LL).fr.size (Nat.le_of_eq hE1.symm)); replace LL := hide L1; clear L1 hb1 hE1; simp only [Act.put, List.setIfInBounds_toArray, List.set_cons_succ, List.set_cons_zero]) | ((refine rd (by rfl) (ex_load1 9 Tryd.isAgg9 rfl rfl ((unhide LL).get 0 rfl) rfl) ?_); simp only [Act.put, List.setIfInBounds_toArray, List.set_cons_succ, List.set_cons_zero]) | ((refine rd (by rfl) (ex_load1 3 Tryd.isAgg3 rfl rfl ((unhide LL).get 0 rfl) rfl) ?_); simp only [Act.put, List.setIfInBounds_toArray, List.set_cons_succ, List.set_cons_zero])))
        go_ret
        exact ⟨by simp [he], (unhide LL).fr.below⟩
      · rw [decide_eq_false h2, Bool.false_and]
        have hq0 : k.agg = .agg #[.string k.s, .int .i64 k.n] := rfl
        rw [hq0]
        clear hq0
        go_enter Tryd.func25, Tryd.ntmps25
        go_wp2_with (first | go_skip | ((with_reducible show wpList _ _ _ _ _ _); first | ((refine bx 41 (k.cs) (by rfl) rfl rfl rfl (Nat.succ_pos _) (unhide LL) ?_); intro X1 B1 hE1 L1 hb1; have hB1 := hide (Nat.le_trans (unhide LL).fr.size (Nat.le_of_eq hE1.symm)); replace LL := hide L1; clear L1 hb1 hE1; simp only [Act.put, List.setIfInBounds_toArray, List.set_cons_succ, List.set_cons_zero]) | ((refine rd (by rfl) (ex_load1 9 Tryd.isAgg9 rfl rfl ((unhide LL).get 0 rfl) rfl) ?_); simp only [Act.put, List.setIfInBounds_toArray, List.set_cons_succ, List.set_cons_zero]) | ((refine rd (by rfl) (ex_load1 3 Tryd.isAgg3 rfl rfl ((unhide LL).get 0 rfl) rfl) ?_); simp only [Act.put, List.setIfInBounds_toArray, List.set_cons_succ, List.set_cons_zero])))
        go_ret
        exact ⟨rfl, (unhide LL).fr.below⟩
    · rw [decide_eq_false h1, Bool.false_and, Bool.false_and]
      have hq0 : k.agg = .agg #[.string k.s, .int .i64 k.n] := rfl
      rw [hq0]
      clear hq0
      go_enter Tryd.func25, Tryd.ntmps25
      go_wp2_with (first | go_skip | ((with_reducible show wpList _ _ _ _ _ _); first | ((refine bx 41 (k.cs) (by rfl) rfl rfl rfl (Nat.succ_pos _) (unhide LL) ?_); intro X1 B1 hE1 L1 hb1; have hB1 := hide (Nat.le_trans (unhide LL).fr.size (Nat.le_of_eq hE1.symm)); replace LL := hide L1; clear L1 hb1 hE1; simp only [Act.put, List.setIfInBounds_toArray, List.set_cons_succ, List.set_cons_zero]) | ((refine rd (by rfl) (ex_load1 9 Tryd.isAgg9 rfl rfl ((unhide LL).get 0 rfl) rfl) ?_); simp only [Act.put, List.setIfInBounds_toArray, List.set_cons_succ, List.set_cons_zero]) | ((refine rd (by rfl) (ex_load1 3 Tryd.isAgg3 rfl rfl ((unhide LL).get 0 rfl) rfl) ?_); simp only [Act.put, List.setIfInBounds_toArray, List.set_cons_succ, List.set_cons_zero])))
      go_ret
      exact ⟨rfl, (unhide LL).fr.below⟩

end
theorem laidOut : laidOutB Tryd.prog = true := by kernel_rfl
theorem rowk41 : (41 : TypeId) < Tryd.prog.types.size := of_decide_eq_true (by kernel_rfl)
theorem key41 : Tryd.prog.keyTypeAt 2 41 = true := by kernel_rfl
theorem law41 : Keyed Tryd.prog 41 := Keyed.of_law (deep_law_laid laidOut (m := 2) (by omega) rowk41 key41 (by rw [Tryd.underlying41]))
theorem keyT41 : Tryd.prog.keyType 41 = true := by kernel_rfl
theorem size_types' : decide ((1 : Nat) ≤ Tryd.prog.types.size) = true := by kernel_rfl
theorem size_types : ∃ n : Nat, Tryd.prog.types.size + 1 = n + 2 := by
  have h : (1 : Nat) ≤ Tryd.prog.types.size := of_decide_eq_true size_types'
  generalize Tryd.prog.types.size = m at h
  exact ⟨m - 1, by omega⟩
/-- What a key reads as. -/
def klit (s : ByteArray) (n : Int) : Lit := .string (keyBytes [.string s.data.toList, .int .i64 n])
theorem keyOf41 (s : ByteArray) (n : Int) (hs : s.size ≤ maxLen) (hn : (Lit.int .i64 n).wf = true) : keyOf Tryd.prog 41 (.agg #[.string s, .int .i64 n]) = some (klit s n) := by
  obtain ⟨N, hN⟩ := size_types
  unfold keyOf
  rw [Tryd.underlying41]
  simp only []
  rw [hN]
  have c41 : Tryd.prog.cellsOf 41 = 2 := by kernel_rfl
  have hf : Value.formed Tryd.prog 41 (.agg #[.string s, .int .i64 n]) = true := by
    simp [Value.formed, Tryd.underlying41, Tryd.underlying3, Tryd.underlying9, c41]
  have c9 : Tryd.prog.cellsOf 9 = 1 := by kernel_rfl
  have c3 : Tryd.prog.cellsOf 3 = 1 := by kernel_rfl
  rw [hf, keyT41]
  simp [Program.keyLits, Tryd.underlying41, Tryd.underlying3, Tryd.underlying9, c9, c3, c41, hs, hn, Value.cells, klit]
theorem klit_inj {s s' : ByteArray} {n n' : Int} (hs : s.size ≤ maxLen) (hn : (Lit.int .i64 n).wf = true) (hs' : s'.size ≤ maxLen) (hn' : (Lit.int .i64 n').wf = true) (h : klit s n = klit s' n') : s = s' ∧ n = n' := by
  have := law41.inj (keyOf41 s n hs hn) (h ▸ keyOf41 s' n' hs' hn')
  simpa using this
theorem klit_key {s : ByteArray} {n : Int} (hs : s.size ≤ maxLen) (hn : (Lit.int .i64 n).wf = true) : WideAt.IsKeyLit (klit s n) := law41.key (keyOf41 s n hs hn)
def OkK (k : KK) : Prop := k.s.size ≤ maxLen ∧ (Lit.int .i64 k.n).wf = true
def kl (k : KK) : Lit := klit k.s k.n
theorem keyOfK {k : KK} (h : OkK k) : keyOf Tryd.prog 41 k.agg = some (kl k) := keyOf41 k.s k.n h.1 h.2
theorem kl_inj {k k' : KK} (h : OkK k) (h' : OkK k') (e : kl k = kl k') : k = k' := by
  obtain ⟨h1, h2⟩ := klit_inj h.1 h.2 h'.1 h'.2 e
  exact KK.ext' h1 h2
theorem kl_key {k : KK} (h : OkK k) : WideAt.IsKeyLit (kl k) := klit_key h.1 h.2
end Go.Proofs.YtmpdhmdmfmgamaaDoor

/-! Oa -/
namespace Go.Proofs.YtmpdhmdmfmgamaaDoor
open Go Go.Proofs
/-- A chain: where one comes to behind k steps. -/
def runN (nx : Nat → Option Nat) : Nat → Nat → Option Nat
  | 0, i => some i
  | k + 1, i => (nx i).bind (runN nx k)
/-- Does one come to an end within f places? -/
def endsF (nx : Nat → Option Nat) : Nat → Nat → Bool
  | 0, _ => false
  | f + 1, i => match nx i with
    | none => true
    | some j => endsF nx f j
theorem php : ∀ (n : Nat) (f : Nat → Nat), (∀ i, i ≤ n → f i < n) → ∃ a b, a < b ∧ b ≤ n ∧ f a = f b
  | 0, f, h => absurd (h 0 (Nat.le_refl 0)) (Nat.not_lt_zero _)
  | n + 1, f, h => by
    by_cases hh : ∃ a, a < n + 1 ∧ f a = f (n + 1)
    · obtain ⟨a, ha, e⟩ := hh
      exact ⟨a, n + 1, ha, Nat.le_refl _, e⟩
    · have hne : ∀ a, a < n + 1 → f a ≠ f (n + 1) := fun a ha e => hh ⟨a, ha, e⟩
      obtain ⟨a, b, hab, hb, e⟩ := php n (fun i => if f i = n then f (n + 1) else f i) (fun i hi => by
        have h1 := h i (by omega)
        have h2 := h (n + 1) (Nat.le_refl _)
        have h3 := hne i (by omega)
        show (if f i = n then f (n + 1) else f i) < n
        by_cases hc : f i = n
        · rw [if_pos hc]
          omega
        · rw [if_neg hc]
          omega)
      refine ⟨a, b, hab, by omega, ?_⟩
      have h3 := hne a (by omega)
      have h4 := hne b (by omega)
      have e' : (if f a = n then f (n + 1) else f a) = (if f b = n then f (n + 1) else f b) := e
      by_cases ha : f a = n
      · rw [if_pos ha] at e'
        by_cases hb' : f b = n
        · omega
        · rw [if_neg hb'] at e'
          omega
      · rw [if_neg ha] at e'
        by_cases hb' : f b = n
        · rw [if_pos hb'] at e'
          omega
        · rw [if_neg hb'] at e'
          exact e'
section
variable {nx : Nat → Option Nat} {n : Nat}
theorem runN_add : ∀ (k m i : Nat), runN nx (k + m) i = (runN nx k i).bind (runN nx m)
  | 0, m, i => by simp [runN]
  | k + 1, m, i => by
    rw [show k + 1 + m = (k + m) + 1 by omega, runN, runN]
    cases nx i with
    | none => rfl
    | some j => exact runN_add k m j
theorem runN_lt (hb : ∀ i j, i < n → nx i = some j → j < n) : ∀ (k i : Nat) {j : Nat}, i < n → runN nx k i = some j → j < n
  | 0, i, j, hi, h => by
    simp only [runN, Option.some.injEq] at h
    omega
  | k + 1, i, j, hi, h => by
    rw [runN] at h
    cases e : nx i with
    | none =>
      rw [e] at h
      cases h
    | some q =>
      rw [e] at h
      exact runN_lt hb k q (hb i q hi e) h
theorem endsF_none : ∀ (f i : Nat), endsF nx f i = true → runN nx f i = none
  | 0, i, h => by cases h
  | f + 1, i, h => by
    rw [endsF] at h
    rw [runN]
    cases e : nx i with
    | none => rfl
    | some j =>
      rw [e] at h
      exact endsF_none f j h
theorem endsF_some : ∀ (f i : Nat), endsF nx f i = false → ∃ j, runN nx f i = some j
  | 0, i, h => ⟨i, rfl⟩
  | f + 1, i, h => by
    rw [endsF] at h
    rw [runN]
    cases e : nx i with
    | none =>
      rw [e] at h
      cases h
    | some j =>
      rw [e] at h
      exact endsF_some f j h
theorem run_cut {k m i : Nat} (h : runN nx (k + m) i ≠ none) : runN nx k i ≠ none := by
  intro e
  rw [runN_add, e] at h
  exact h rfl
/-- One that comes to itself never ends. -/
theorem run_round {p q : Nat} (hp : 1 ≤ p) (h : runN nx p q = some q) : ∀ k, runN nx k q ≠ none := by
  have hm : ∀ c, runN nx (c * p) q = some q := by
    intro c
    induction c with
    | zero => simp [runN]
    | succ c ih =>
      rw [Nat.succ_mul, runN_add, ih]
      exact h
  intro k
  have h1 : runN nx (k * p) q ≠ none := by
    rw [hm k]
    exact fun h => by cases h
  have h2 : k ≤ k * p := Nat.le_mul_of_pos_right k (by omega)
  obtain ⟨d, hd⟩ := Nat.exists_eq_add_of_le h2
  rw [hd] at h1
  exact run_cut h1
/-- It ends: as the document's answer asks it. -/
def tB (nx : Nat → Option Nat) (n i : Nat) : Bool := endsF nx (n + 1) i
theorem tB_iff (hb : ∀ i j, i < n → nx i = some j → j < n) {i : Nat} (hi : i < n) : tB nx n i = true ↔ ∃ k, runN nx k i = none := by
  refine ⟨fun h => ⟨n + 1, endsF_none _ _ h⟩, fun ⟨k, hk⟩ => ?_⟩
  cases hc : tB nx n i with
  | true => rfl
  | false =>
    exfalso
    obtain ⟨z, hz⟩ := endsF_some _ _ hc
    have hall : ∀ a, a ≤ n → ∃ y, runN nx a i = some y ∧ y < n := by
      intro a ha
      cases e : runN nx a i with
      | none =>
        have h0 : runN nx (a + (n + 1 - a)) i ≠ none := by
          rw [show a + (n + 1 - a) = n + 1 by omega, hz]
          exact fun h => by cases h
        exact absurd e (run_cut h0)
      | some y => exact ⟨y, rfl, runN_lt hb a i hi e⟩
    obtain ⟨a, b, hab, hbn, e⟩ := php n (fun a => ((runN nx a i).getD 0)) (fun a ha => by
      obtain ⟨y, hy, hy2⟩ := hall a ha
      show (runN nx a i).getD 0 < n
      rw [hy]
      exact hy2)
    obtain ⟨y, hy, _⟩ := hall a (by omega)
    obtain ⟨y', hy', _⟩ := hall b hbn
    have e2 : y = y' := by
      have e1 : (runN nx a i).getD 0 = (runN nx b i).getD 0 := e
      rw [hy, hy'] at e1
      exact e1
    subst e2
    have hp : runN nx (b - a) y = some y := by
      have h1 := runN_add (nx := nx) a (b - a) i
      rw [show a + (b - a) = b by omega, hy', hy] at h1
      exact h1.symm
    have h2 := run_round (by omega) hp k
    have h3 : runN nx (a + k) i ≠ none := by
      rw [runN_add, hy]
      exact h2
    rw [show a + k = k + a by omega] at h3
    exact run_cut h3 hk
theorem tB_none {i : Nat} (h : nx i = none) : tB nx n i = true := by
  unfold tB
  rw [endsF, h]
theorem tB_run (hb : ∀ i j, i < n → nx i = some j → j < n) {k i j : Nat} (hi : i < n) (h : runN nx k i = some j) : tB nx n i = tB nx n j := by
  have hj := runN_lt hb k i hi h
  have : tB nx n i = true ↔ tB nx n j = true := by
    rw [tB_iff hb hi, tB_iff hb hj]
    constructor
    · rintro ⟨m, hm⟩
      refine ⟨m, ?_⟩
      cases e : runN nx m j with
      | none => rfl
      | some z =>
        have h1 : runN nx (k + m) i ≠ none := by
          rw [runN_add, h]
          show runN nx m j ≠ none
          rw [e]
          exact fun h => by cases h
        rw [show k + m = m + k by omega] at h1
        exact absurd hm (run_cut h1)
    · rintro ⟨m, hm⟩
      exact ⟨k + m, by rw [runN_add, h]; exact hm⟩
  cases h1 : tB nx n i <;> cases h2 : tB nx n j <;> simp_all
theorem tB_round (hb : ∀ i j, i < n → nx i = some j → j < n) {p q : Nat} (hq : q < n) (hp : 1 ≤ p) (h : runN nx p q = some q) : tB nx n q = false := by
  cases e : tB nx n q with
  | false => rfl
  | true =>
    obtain ⟨k, hk⟩ := (tB_iff hb hq).1 e
    exact absurd hk (run_round hp h k)
theorem run_snoc {k i j z : Nat} (h : runN nx k i = some j) (hj : nx j = some z) : runN nx (k + 1) i = some z := by
  rw [runN_add, h]
  show runN nx 1 j = some z
  rw [runN, hj]
  rfl
end
end Go.Proofs.YtmpdhmdmfmgamaaDoor

/-! Oc -/
namespace Go.Proofs.YtmpdhmdmfmgamaaDoor
open Go Go.Proofs Go.Maps Go.RowKit FM
set_option linter.unusedSimpArgs false
set_option linter.unusedVariables false
set_option maxHeartbeats 1000000
theorem alG {ops : Array Oper} {rest : List Oper} {Q : Exit → Act → World → Prop} {w w0 : World} {a : Act} {o : Oper} {E : List Nat} {L : List (Nat × List Value)} (t : TypeId) (cs : List Value) (hw : Region.wanted o (yielded ops a.tmps) = true) (ho : o.op = .alloc t) (hz : ∀ w, (zeroValue t).run Tryd.prog w = .ok (.agg cs.toArray) w) (hc : 0 < cs.length) (hL : Hq w0 w E L)
    (h : ∀ X B, B = w.heap.size → Hq w0 X E (L ++ [(B, cs)]) → Below w.heap.size w X → wpList Tryd.prog ops Q rest (a.put o.dst (.pointer (some ⟨B, 0, none⟩))) X) : wpList Tryd.prog ops Q (o :: rest) a w := by
  refine BigFrame.wpList_want hw fun K hK => ?_
  have hP := hK _ _ (h _ _ rfl (hL.new cs t hc) ((Below.refl _ _).alloc (Nat.le_refl _) _))
  unfold Oper.wp execOp
  simp only [ho]
  simp [go_sem, hz, Value.cells]
  exact hP
theorem ret_c {fn : Func} {R : Ending → World → Prop} {a : Act} {w : World} {b r T n : Nat} {cs : List Value} (hT : ∃ d, Tryd.prog.underlying T = some d ∧ d.isRow = true) (hn : (Tryd.prog.info? T).map (·.size) = some n) (hr : fn.results = #[.cell r T]) (hdf : a.defers = [])
    (hx : a.tmps.getD r undef = .pointer (some ⟨b, 0, none⟩)) (hc : Holds w b cs) (hcs : cs.length = n) (h : R (.returned (.agg cs.toArray)) w) : bodyPost Tryd.prog fn R .ret a w := by
  obtain ⟨t, hu, hd⟩ := hT
  have h0 := hc.mid 0 n
  rw [List.drop_zero, List.take_of_length_le (by omega)] at h0
  have hl := run_loadVar_mid (P := Tryd.prog) w b 0 T _ t h0 hu hd (by rw [hn, hcs])
  refine ⟨hdf, _, ?_, h⟩
  simp only [Array.getD_eq_getD_getElem?] at hx
  unfold results
  simp [hr, hx, hl, asAddr]
  try rfl
theorem ex_lenG {o : Oper} {a : Act} {w : World} {m : Operand} {A : Option Addr} {n c : Nat} (t e : TypeId) (ht : Tryd.prog.underlying t = some (.slice e)) (ho : o.op = .call { callee := .builtin .len, args := #[m], argTypes := #[t] }) (hm : a.eval m = .slice A n c) : (execOp a.eval o).run Tryd.prog w = .ok (.value (.int .i64 (n : Nat))) w := by
  simp [execOp, ho, resolve, invoke, builtin, hm, Builtin.len_, Result.andThen, goInt, ht, run_underlying ht]
theorem ex_eqYes {o : Oper} {a : Act} {w : World} {x y : Operand} {n m : Int} (ho : o.op = .binOp .eql 3 x y 3) (hx : a.eval x = .int .i64 n) (hc : a.eval y = .int .i64 m) (h : n = m) : (execOp a.eval o).run Tryd.prog w = .ok (.value (.bool true)) w := by
  unfold execOp
  simp only [ho, hx, hc]
  simp [go_sem, eqGuard, h]
theorem rangeAt_fr {w X : World} {b p : Nat} {cs : List Value} (h : w.rangeAt b p cs) (hb : b < w.heap.size) (hf : Fr w X []) : X.rangeAt b p cs := fun j v hv => by
  have e := h j v hv
  have h1 := hf.block b hb (by simp)
  unfold World.cell? at e ⊢
  dsimp only at e ⊢
  rw [h1]
  exact e
theorem ex_eqNo {o : Oper} {a : Act} {w : World} {x y : Operand} {n m : Int} (ho : o.op = .binOp .eql 3 x y 3) (hx : a.eval x = .int .i64 n) (hc : a.eval y = .int .i64 m) (h : n ≠ m) : (execOp a.eval o).run Tryd.prog w = .ok (.value (.bool false)) w := by
  unfold execOp
  simp only [ho, hx, hc]
  simp [go_sem, eqGuard, h]
theorem row25 : ∃ d, Tryd.prog.underlying 25 = some d ∧ d.isRow = true := ⟨_, Tryd.underlying25, rfl⟩
theorem siz25 : (Tryd.prog.info? 25).map (·.size) = some 5 := by kernel_rfl
theorem row28 : ∃ d, Tryd.prog.underlying 28 = some d ∧ d.isRow = true := ⟨_, Tryd.underlying28, rfl⟩
theorem siz28 : (Tryd.prog.info? 28).map (·.size) = some 8 := by kernel_rfl
theorem row34 : ∃ d, Tryd.prog.underlying 34 = some d ∧ d.isRow = true := ⟨_, Tryd.underlying34, rfl⟩
theorem siz34 : (Tryd.prog.info? 34).map (·.size) = some 2 := by kernel_rfl
theorem row44 : ∃ d, Tryd.prog.underlying 44 = some d ∧ d.isRow = true := ⟨_, Tryd.underlying44, rfl⟩
theorem siz44 : (Tryd.prog.info? 44).map (·.size) = some 18 := by kernel_rfl
theorem row46 : ∃ d, Tryd.prog.underlying 46 = some d ∧ d.isRow = true := ⟨_, Tryd.underlying46, rfl⟩
theorem siz46 : (Tryd.prog.info? 46).map (·.size) = some 20 := by kernel_rfl
theorem row41 : ∃ d, Tryd.prog.underlying 41 = some d ∧ d.isRow = true := ⟨_, Tryd.underlying41, rfl⟩
theorem siz41 : (Tryd.prog.info? 41).map (·.size) = some 2 := by kernel_rfl
theorem siz3 : (Tryd.prog.info? 3).map (·.size) = some 1 := by kernel_rfl
theorem siz22 : (Tryd.prog.info? 22).map (·.size) = some 1 := by kernel_rfl
theorem siz26 : (Tryd.prog.info? 26).map (·.size) = some 1 := by kernel_rfl
theorem siz32 : (Tryd.prog.info? 32).map (·.size) = some 1 := by kernel_rfl
theorem idx22 (w : World) : (sizeOf (Tryd.prog.elem 22)).run Tryd.prog w = .ok 8 w := by kernel_rfl
theorem und22 : Tryd.prog.underlying 22 = some (.slice (Tryd.prog.elem 22)) := by kernel_rfl
theorem idx26 (w : World) : (sizeOf (Tryd.prog.elem 26)).run Tryd.prog w = .ok 20 w := by kernel_rfl
theorem und26 : Tryd.prog.underlying 26 = some (.slice (Tryd.prog.elem 26)) := by kernel_rfl
theorem idx32 (w : World) : (sizeOf (Tryd.prog.elem 32)).run Tryd.prog w = .ok 1 w := by kernel_rfl
theorem und32 : Tryd.prog.underlying 32 = some (.slice (Tryd.prog.elem 32)) := by kernel_rfl
theorem idx70 (w : World) : (sizeOf (Tryd.prog.elem 70)).run Tryd.prog w = .ok 5 w := by kernel_rfl
theorem und70 : Tryd.prog.underlying 70 = some (.slice (Tryd.prog.elem 70)) := by kernel_rfl
/-- A property: its key, and its descriptor. -/
structure PR where
  k : KK
  d : DD
def PR.cs (p : PR) : List Value := p.k.cs ++ p.d.cs
def PR.agg (p : PR) : Value := .agg p.cs.toArray
/-- A shape: class, prototype, extensible, properties. -/
structure SH where
  c : Int
  p : VV
  x : Bool
  ps : List PR
def SH.cs (s : SH) (A : Option Addr) (cap : Nat) : List Value := [.int .i64 s.c] ++ s.p.cs ++ [.bool s.x, .slice A s.ps.length cap]
def SH.agg (s : SH) (A : Option Addr) (cap : Nat) : Value := .agg (s.cs A cap).toArray
theorem pcs_length (p : PR) : p.cs.length = 20 := rfl
theorem shcs_length (p : SH) (A : Option Addr) (cap : Nat) : (p.cs A cap).length = 8 := rfl
theorem vagg (v : VV) : v.agg = .agg v.cs.toArray := rfl
theorem dagg (v : DD) : v.agg = .agg v.cs.toArray := rfl
theorem kagg (v : KK) : v.agg = .agg v.cs.toArray := rfl
theorem pcs_one (p : PR) : ∀ u ∈ p.cs, u.oneCell' = true := by simp [PR.cs, KK.cs, DD.cs, Value.oneCell']
theorem shcs_one (p : SH) (A : Option Addr) (cap : Nat) : ∀ u ∈ p.cs A cap, u.oneCell' = true := by simp [SH.cs, VV.cs, Value.oneCell']
theorem vcs_one (v : VV) : ∀ u ∈ v.cs, u.oneCell' = true := by simp [VV.cs, Value.oneCell']
def OkP (p : PR) : Prop := FD p.d ∧ OkK p.k
/-- A slice whose elements are these properties. -/
def ReadsP (w : World) (A : Option Addr) (l : List PR) : Prop := ∀ j p, l[j]? = some p → OkP p ∧ ∃ b off, A = some ⟨b, off, none⟩ ∧ b < w.heap.size ∧ w.rangeAt b (off + j * 20) p.cs
/-- A slice whose elements are these shapes. -/
def ReadsS (w : World) (A : Option Addr) (l : List SH) : Prop := ∀ j s, l[j]? = some s → s.p.x < 2 ^ 64 ∧ s.ps.length ≤ 733007751850 ∧ ∃ b off SA cap, A = some ⟨b, off, none⟩ ∧ b < w.heap.size ∧ ReadsP w SA s.ps ∧ w.rangeAt b (off + j * 8) (s.cs SA cap)
theorem ReadsP.fr {w X : World} {A : Option Addr} {l : List PR} (h : ReadsP w A l) (hf : Fr w X []) : ReadsP X A l := fun j p hp => by
  obtain ⟨h1, b, off, h2, h3, h4⟩ := h j p hp
  exact ⟨h1, b, off, h2, Nat.lt_of_lt_of_le h3 hf.size, rangeAt_fr h4 h3 hf⟩
theorem ReadsS.fr {w X : World} {A : Option Addr} {l : List SH} (h : ReadsS w A l) (hf : Fr w X []) : ReadsS X A l := fun j p hp => by
  obtain ⟨h1, h6, b, off, SA, cap, h2, h3, h5, h4⟩ := h j p hp
  exact ⟨h1, h6, b, off, SA, cap, h2, Nat.lt_of_lt_of_le h3 hf.size, h5.fr hf, rangeAt_fr h4 h3 hf⟩
end Go.Proofs.YtmpdhmdmfmgamaaDoor

/-! Od -/
namespace Go.Proofs.YtmpdhmdmfmgamaaDoor
open Go Go.Proofs Go.Maps Go.RowKit FM
set_option linter.unusedSimpArgs false
set_option linter.unusedVariables false
set_option maxHeartbeats 1000000
/-- Null, and nothing else. -/
def nulV (v : VV) : Bool := v.k == 2 && !v.b && v.x == 0 && v.s.toList.isEmpty && v.i == 0
/-- One of so many objects, and nothing else. -/
def obR (v : VV) (n : Nat) : Bool := v.k == 7 && !v.b && v.x == 0 && v.s.toList.isEmpty && (decide (1 ≤ v.i) && decide (v.i ≤ (n : Int)))
def vRef (v : VV) (n : Nat) : Bool := v.k != 7 || (decide (1 ≤ v.i) && decide (v.i ≤ (n : Int)))
section
attribute [local go_sem] quo_pos quo_neg
set_option maxHeartbeats 1000000 in
set_option maxRecDepth 100000 in
theorem rnull_any (v : VV) (hx : v.x < 2 ^ 64) (w : World) : Calls Tryd.prog 14 #[v.agg] w fun e w' => e = .returned (.bool (nulV v)) ∧ Below w.heap.size w w' := by
  have hz := zero_order v.x hx
  have h1 := o_00
  have h2 := o_m0
  have h3 := o_ig
  have h4 := o_ng
  obtain ⟨k, b, x, s, i⟩ := v
  unfold VV.agg nulV
  dsimp only at *
  by_cases hk : k = 2
  · subst hk
    cases b
    · generalize hq : (FloatKind.f64.format.order x 0 == some .eq) = q at *
      cases q
      · have hx0 : (x == 0) = false := by
          simp at hz
          simp [hz]
        rw [hx0]
        have hq2 : ¬ FloatKind.f64.format.order x 0 = some .eq := by simpa using hq
        clear hz hq hx hx0 h1 h2 h3 h4
        go_enter Tryd.func14, Tryd.ntmps14
        go_wp2
        go_ret
        exact ⟨rfl, (Below.refl w.heap.size w).alloc (Nat.le_refl _) _⟩
      · have hx0 : x = 0 ∨ x = 9223372036854775808 := by
          simp at hz
          omega
        clear hz
        rcases hx0 with rfl | rfl
        · by_cases hs : s.toList.isEmpty = true
          · have hs2 := empty_of hs
            subst hs2
            by_cases hi : i = 0
            · subst hi
              rw [hs]
              clear hx hs
              go_enter Tryd.func14, Tryd.ntmps14
              go_wp2
              go_ret
              exact ⟨rfl, (Below.refl w.heap.size w).alloc (Nat.le_refl _) _⟩
            · have hi2 : (i == 0) = false := by simp [hi]
              rw [hi2, Bool.and_false]
              clear hx hs
              go_enter Tryd.func14, Tryd.ntmps14
              go_wp2
              go_ret
              exact ⟨rfl, (Below.refl w.heap.size w).alloc (Nat.le_refl _) _⟩
          · have hs1 : s.toList.isEmpty = false := by simpa using hs
            have hs2 : ¬ s.toList = [] := by simpa using hs1
            rw [hs1, Bool.and_false, Bool.false_and]
            clear hx hs hs1
            go_enter Tryd.func14, Tryd.ntmps14
            go_wp2
            go_ret
            exact ⟨rfl, (Below.refl w.heap.size w).alloc (Nat.le_refl _) _⟩
        · clear hx
          go_enter Tryd.func14, Tryd.ntmps14
          go_wp2
          go_ret
          exact ⟨rfl, (Below.refl w.heap.size w).alloc (Nat.le_refl _) _⟩
    · clear hz hx h1 h2 h3 h4
      go_enter Tryd.func14, Tryd.ntmps14
      go_wp2
      go_ret
      exact ⟨rfl, (Below.refl w.heap.size w).alloc (Nat.le_refl _) _⟩
  · clear hz hx h1 h2 h3 h4
    have hk2 : (k == 2) = false := by simp [hk]
    rw [hk2]
    go_enter Tryd.func14, Tryd.ntmps14
    go_wp2
    go_ret
    exact ⟨rfl, (Below.refl w.heap.size w).alloc (Nat.le_refl _) _⟩
set_option maxHeartbeats 1000000 in
set_option maxRecDepth 100000 in
theorem robject_any (v : VV) (n : Nat) (hx : v.x < 2 ^ 64) (w : World) : Calls Tryd.prog 15 #[v.agg, .int .i64 (n : Nat)] w fun e w' => e = .returned (.bool (obR v n)) ∧ Below w.heap.size w w' := by
  have hz := zero_order v.x hx
  have h1 := o_00
  have h2 := o_m0
  have h3 := o_ig
  have h4 := o_ng
  obtain ⟨k, b, x, s, i⟩ := v
  unfold VV.agg obR
  dsimp only at *
  by_cases hk : k = 7
  · subst hk
    cases b
    · generalize hq : (FloatKind.f64.format.order x 0 == some .eq) = q at *
      cases q
      · have hx0 : (x == 0) = false := by
          simp at hz
          simp [hz]
        rw [hx0]
        have hq2 : ¬ FloatKind.f64.format.order x 0 = some .eq := by simpa using hq
        clear hz hq hx hx0 h1 h2 h3 h4
        go_enter Tryd.func15, Tryd.ntmps15
        go_wp2
        go_ret
        exact ⟨rfl, (Below.refl w.heap.size w).alloc (Nat.le_refl _) _⟩
      · have hx0 : x = 0 ∨ x = 9223372036854775808 := by
          simp at hz
          omega
        clear hz
        rcases hx0 with rfl | rfl
        · by_cases hs : s.toList.isEmpty = true
          · have hs2 := empty_of hs
            subst hs2
            rw [hs]
            by_cases hi1 : 1 ≤ i
            · by_cases hi2 : i ≤ (n : Int)
              · have d1 := decide_eq_true hi1
                have d2 := decide_eq_true hi2
                rw [d1, d2]
                clear hx hs
                go_enter Tryd.func15, Tryd.ntmps15
                go_wp2
                go_ret
                exact ⟨by simp [*], (Below.refl w.heap.size w).alloc (Nat.le_refl _) _⟩
              · have d1 := decide_eq_true hi1
                have d2 := decide_eq_false hi2
                rw [d1, d2]
                clear hx hs
                go_enter Tryd.func15, Tryd.ntmps15
                go_wp2
                go_ret
                exact ⟨by simp [*], (Below.refl w.heap.size w).alloc (Nat.le_refl _) _⟩
            · have d1 := decide_eq_false hi1
              rw [d1]
              clear hx hs
              go_enter Tryd.func15, Tryd.ntmps15
              go_wp2
              go_ret
              exact ⟨by simp [*], (Below.refl w.heap.size w).alloc (Nat.le_refl _) _⟩
          · have hs1 : s.toList.isEmpty = false := by simpa using hs
            have hs2 : ¬ s.toList = [] := by simpa using hs1
            rw [hs1, Bool.and_false, Bool.false_and]
            clear hx hs hs1
            go_enter Tryd.func15, Tryd.ntmps15
            go_wp2
            go_ret
            exact ⟨rfl, (Below.refl w.heap.size w).alloc (Nat.le_refl _) _⟩
        · clear hx
          go_enter Tryd.func15, Tryd.ntmps15
          go_wp2
          go_ret
          exact ⟨rfl, (Below.refl w.heap.size w).alloc (Nat.le_refl _) _⟩
    · clear hz hx h1 h2 h3 h4
      go_enter Tryd.func15, Tryd.ntmps15
      go_wp2
      go_ret
      exact ⟨rfl, (Below.refl w.heap.size w).alloc (Nat.le_refl _) _⟩
  · clear hz hx h1 h2 h3 h4
    have hk2 : (k == 7) = false := by simp [hk]
    rw [hk2]
    go_enter Tryd.func15, Tryd.ntmps15
    go_wp2
    go_ret
    exact ⟨rfl, (Below.refl w.heap.size w).alloc (Nat.le_refl _) _⟩
end
set_option maxRecDepth 100000 in
theorem rvalue_any (v : VV) (n : Nat) (w : World) : Calls Tryd.prog 27 #[v.agg, .int .i64 (n : Nat)] w fun e w' => e = .returned (.bool (vRef v n)) ∧ Below w.heap.size w w' := by
  have LL := hide (Hq.nil w [])
  rw [vagg]
  by_cases hk : v.k = 7
  · have hk2 : (v.k != 7) = false := by simp [hk]
    unfold vRef
    rw [hk2, Bool.false_or]
    clear hk
    by_cases h1 : 1 ≤ v.i
    · have d1 := decide_eq_true h1
      rw [d1, Bool.true_and]
      by_cases h2 : v.i ≤ (n : Int)
      · have d2 := decide_eq_true h2
        rw [d2]
        go_enter Tryd.func27, Tryd.ntmps27
        go_wp2_with (first | go_skip | ((with_reducible show wpList _ _ _ _ _ _); first | ((refine bx 25 (v.cs) (by rfl) rfl rfl rfl (Nat.succ_pos _) (unhide LL) ?_); intro X1 B1 hE1 L1 hb1; have hB1 := hide (Nat.le_trans (unhide LL).fr.size (Nat.le_of_eq hE1.symm)); replace LL := hide L1; clear L1 hb1 hE1; simp only [Act.put, List.setIfInBounds_toArray, List.set_cons_succ, List.set_cons_zero]) | ((refine rd (by rfl) (ex_load1 3 Tryd.isAgg3 rfl rfl ((unhide LL).get 0 rfl) rfl) ?_); simp only [Act.put, List.setIfInBounds_toArray, List.set_cons_succ, List.set_cons_zero])))
        go_ret
        exact ⟨rfl, (unhide LL).fr.below⟩
      · have d2 := decide_eq_false h2
        rw [d2]
        go_enter Tryd.func27, Tryd.ntmps27
        go_wp2_with (first | go_skip | ((with_reducible show wpList _ _ _ _ _ _); first | ((refine bx 25 (v.cs) (by rfl) rfl rfl rfl (Nat.succ_pos _) (unhide LL) ?_); intro X1 B1 hE1 L1 hb1; have hB1 := hide (Nat.le_trans (unhide LL).fr.size (Nat.le_of_eq hE1.symm)); replace LL := hide L1; clear L1 hb1 hE1; simp only [Act.put, List.setIfInBounds_toArray, List.set_cons_succ, List.set_cons_zero]) | ((refine rd (by rfl) (ex_load1 3 Tryd.isAgg3 rfl rfl ((unhide LL).get 0 rfl) rfl) ?_); simp only [Act.put, List.setIfInBounds_toArray, List.set_cons_succ, List.set_cons_zero])))
        go_ret
        exact ⟨rfl, (unhide LL).fr.below⟩
    · have d1 := decide_eq_false h1
      rw [d1, Bool.false_and]
      go_enter Tryd.func27, Tryd.ntmps27
      go_wp2_with (first | go_skip | ((with_reducible show wpList _ _ _ _ _ _); first | ((refine bx 25 (v.cs) (by rfl) rfl rfl rfl (Nat.succ_pos _) (unhide LL) ?_); intro X1 B1 hE1 L1 hb1; have hB1 := hide (Nat.le_trans (unhide LL).fr.size (Nat.le_of_eq hE1.symm)); replace LL := hide L1; clear L1 hb1 hE1; simp only [Act.put, List.setIfInBounds_toArray, List.set_cons_succ, List.set_cons_zero]) | ((refine rd (by rfl) (ex_load1 3 Tryd.isAgg3 rfl rfl ((unhide LL).get 0 rfl) rfl) ?_); simp only [Act.put, List.setIfInBounds_toArray, List.set_cons_succ, List.set_cons_zero])))
      go_ret
      exact ⟨rfl, (unhide LL).fr.below⟩
  · have hk2 : (v.k != 7) = true := by simp [hk]
    unfold vRef
    rw [hk2, Bool.true_or]
    clear hk
    go_enter Tryd.func27, Tryd.ntmps27
    go_wp2_with (first | go_skip | ((with_reducible show wpList _ _ _ _ _ _); first | ((refine bx 25 (v.cs) (by rfl) rfl rfl rfl (Nat.succ_pos _) (unhide LL) ?_); intro X1 B1 hE1 L1 hb1; have hB1 := hide (Nat.le_trans (unhide LL).fr.size (Nat.le_of_eq hE1.symm)); replace LL := hide L1; clear L1 hb1 hE1; simp only [Act.put, List.setIfInBounds_toArray, List.set_cons_succ, List.set_cons_zero]) | ((refine rd (by rfl) (ex_load1 3 Tryd.isAgg3 rfl rfl ((unhide LL).get 0 rfl) rfl) ?_); simp only [Act.put, List.setIfInBounds_toArray, List.set_cons_succ, List.set_cons_zero])))
    go_ret
    exact ⟨rfl, (unhide LL).fr.below⟩
end Go.Proofs.YtmpdhmdmfmgamaaDoor

/-! Oe -/
namespace Go.Proofs.YtmpdhmdmfmgamaaDoor
open Go Go.Proofs Go.Maps Go.RowKit FM
set_option linter.unusedSimpArgs false
set_option linter.unusedVariables false
set_option maxHeartbeats 1000000
instance decK : DecidableEq KK := fun a b => decidable_of_iff (a.s = b.s ∧ a.n = b.n) ⟨fun h => KK.ext' h.1 h.2, fun h => h ▸ ⟨rfl, rfl⟩⟩
/-- One of so many objects, as the program asks it. -/
def obP (v : VV) (n : Nat) : Bool := v.k == 7 && decide (v.i ≤ (n : Int)) && v.good
def prP (v : VV) (n : Nat) : Bool := obP v n || (v.k == 2 && v.good)
theorem ob_same (v : VV) (n : Nat) (hn : n ≤ 65536) : obP v n = obR v n := by
  obtain ⟨k, b, x, s, i⟩ := v
  unfold obP obR VV.good goodV inG strV
  dsimp only
  generalize s.toList.isEmpty = q
  generalize fitV s = ft
  by_cases hk : k = 7
  · subst hk
    simp only [bne]
    generalize (x == 0) = ex
    by_cases h1 : i ≤ (n : Int)
    · by_cases h2 : 1 ≤ i
      · have h3 : i ≤ 65536 := by omega
        cases b <;> cases q <;> cases ex <;> simp [h1, h2, h3]
      · cases b <;> cases q <;> cases ex <;> simp [h1, h2]
    · cases b <;> cases q <;> cases ex <;> simp [h1]
  · have h7 : (k == 7) = false := by simp [hk]
    rw [h7]
    simp
theorem nul_same (v : VV) : (v.k == 2 && v.good) = nulV v := by
  obtain ⟨k, b, x, s, i⟩ := v
  unfold nulV VV.good goodV inG strV
  dsimp only
  generalize s.toList.isEmpty = q
  generalize fitV s = ft
  by_cases hk : k = 2
  · subst hk
    simp only [bne]
    generalize (x == 0) = ex
    generalize (i == 0) = ei
    cases b <;> cases q <;> cases ex <;> cases ei <;> simp
  · have h7 : (k == 2) = false := by simp [hk]
    rw [h7]
    simp
theorem nul_ob {v : VV} {n : Nat} (h : nulV v = true) : obR v n = false := by
  unfold nulV at h
  unfold obR
  simp only [Bool.and_eq_true] at h
  have h2 : v.k = 2 := by simpa using h.1.1.1.1
  rw [h2]
  rfl
theorem ob_id {v : VV} {n : Nat} (h : obR v n = true) : 1 ≤ v.i ∧ v.i ≤ (n : Int) := by
  unfold obR at h
  simp only [Bool.and_eq_true, decide_eq_true_eq] at h
  exact h.2
/-- Where a chain goes on behind a place. -/
def nxR (l : List SH) (a : Nat) : Option Nat := match l[a]? with
  | some s => if s.c == 9 || !obR s.p l.length then none else some (s.p.i - 1).toNat
  | none => none
theorem nx_lt {l : List SH} (i j : Nat) (_ : i < l.length) (h : nxR l i = some j) : j < l.length := by
  unfold nxR at h
  split at h
  · rename_i s hs
    split at h
    · cases h
    · rename_i hc
      have ho : obR s.p l.length = true := by
        cases ho : obR s.p l.length with
        | true => rfl
        | false =>
          rw [ho] at hc
          simp at hc
      have := ob_id ho
      have e : (s.p.i - 1).toNat = j := Option.some.inj h
      omega
  · cases h
/-- Does the chain from a place on end? -/
def tL (l : List SH) (i : Nat) : Bool := tB (nxR l) l.length i
theorem whole_sound {d : DD} (h : wholeV d = true) : soundV d = true := by
  unfold wholeV kindV at h
  cases hs : soundV d with
  | true => rfl
  | false =>
    rw [hs] at h
    simp at h
/-- What a descriptor's objects are asked for. -/
def okV (v : VV) (n : Nat) : Bool := !(v.k == 7) || obP v n
def okW (n : Nat) (p : PR) : Bool := wholeV p.d && (okV p.d.v n && okV p.d.g n && okV p.d.s n)
def okR (n : Nat) (p : PR) : Bool := goodK p.k && rwhoV p.d && vRef p.d.v n && vRef p.d.g n && vRef p.d.s n
theorem good_ref {v : VV} {n : Nat} (hn : n ≤ 65536) (h : v.k = 7 → v.good = true) : okV v n = vRef v n := by
  unfold okV vRef obP
  by_cases hk : v.k = 7
  · have hg := h hk
    have hg2 : v.good = true := hg
    have h1 : 1 ≤ v.i := by
      obtain ⟨k, b, x, s, i⟩ := v
      dsimp only at hk
      subst hk
      rcases good_cases hg with ⟨h9, _⟩ | ⟨h9, _⟩ | ⟨h9, _⟩ | ⟨h9, _⟩ | ⟨h9, _⟩ | ⟨h9, _⟩ | ⟨_, _, _, _, h1, _⟩
      all_goals first | exact h1 | (exfalso; simp at h9)
    rw [hg2, hk]
    simp [h1]
  · have h7 : (v.k == 7) = false := by simp [hk]
    simp only [bne]
    rw [h7]
    rfl
theorem call_good {v : VV} (h : callV v = true) : v.k = 7 → v.good = true := by
  intro hk
  unfold callV at h
  rw [hk] at h
  simpa using h
theorem ok_same (n : Nat) (hn : n ≤ 65536) (p : PR) : (goodK p.k && okW n p) = okR n p := by
  unfold okW okR
  rw [(four p.d).2]
  cases hw : wholeV p.d
  · simp
  · have hs : soundV p.d = true := whole_sound hw
    unfold soundV at hs
    simp only [Bool.and_eq_true] at hs
    obtain ⟨⟨⟨⟨⟨a1, a2⟩, a3⟩, -⟩, -⟩, -⟩ := hs
    rw [good_ref hn (fun h7 => by
      have ht : thV p.d.v = true := th_of_k (by simp [h7])
      rw [ht] at a1
      simpa using a1), good_ref hn (call_good a2), good_ref hn (call_good a3)]
    cases goodK p.k <;> cases vRef p.d.v n <;> cases vRef p.d.g n <;> cases vRef p.d.s n <;> rfl
/-- Is the key at a place there further ahead? -/
def earlier (l : List PR) (i : Nat) : Bool := match l[i]? with
  | some p => (l.take i).any (fun q => decide (q.k = p.k))
  | none => false
def szT (l : List PR) : Nat → Nat
  | 0 => 0
  | i + 1 => if earlier l i then szT l i else szT l i + 1
def allT (f : PR → Bool) (l : List PR) : Nat → Bool
  | 0 => true
  | i + 1 => allT f l i && (match l[i]? with | some p => f p | none => true)
def ndT (l : List PR) : Nat → Bool
  | 0 => true
  | i + 1 => ndT l i && !earlier l i
def rpT (n : Nat) (l : List PR) : Nat → Bool
  | 0 => true
  | i + 1 => rpT n l i && (match l[i]? with | some p => okR n p | none => true) && !earlier l i
theorem szT_nd (l : List PR) : ∀ i, szT l i ≤ i ∧ (decide (szT l i = i) = ndT l i)
  | 0 => ⟨Nat.le_refl _, rfl⟩
  | i + 1 => by
    obtain ⟨h1, h2⟩ := szT_nd l i
    unfold szT ndT
    rw [← h2]
    cases earlier l i
    · refine ⟨by simp; omega, ?_⟩
      simp
    · refine ⟨by simp; omega, ?_⟩
      have : ¬ szT l i = i + 1 := by omega
      simp [this]
theorem rpT_same (n : Nat) (hn : n ≤ 65536) (l : List PR) : ∀ i, ((allT (fun p => goodK p.k) l i && ndT l i) && allT (okW n) l i) = rpT n l i
  | 0 => rfl
  | i + 1 => by
    unfold allT ndT rpT
    rw [← rpT_same n hn l i]
    cases l[i]? with
    | none =>
      dsimp only
      cases allT (fun p => goodK p.k) l i <;> cases ndT l i <;> cases allT (okW n) l i <;> cases earlier l i <;> rfl
    | some p =>
      dsimp only
      rw [← ok_same n hn p]
      cases allT (fun p => goodK p.k) l i <;> cases ndT l i <;> cases allT (okW n) l i <;> cases earlier l i <;> cases goodK p.k <;> cases okW n p <;> rfl
/-- What the program's distinct and whole answer together, and the document's props. -/
def dstV (l : List PR) : Bool := allT (fun p => goodK p.k) l l.length && decide (szT l l.length = l.length)
def whV (n : Nat) (l : List PR) : Bool := allT (okW n) l l.length
def rpV (n : Nat) (l : List PR) : Bool := rpT n l l.length
theorem props_same (n : Nat) (hn : n ≤ 65536) (l : List PR) : (dstV l && whV n l) = rpV n l := by
  unfold dstV whV rpV
  rw [(szT_nd l l.length).2, rpT_same n hn]
theorem allT_false {f : PR → Bool} {l : List PR} {i : Nat} {p : PR} (hp : l[i]? = some p) (hf : f p = false) : allT f l l.length = false := by
  have h : ∀ m, allT f l (i + 1 + m) = false := by
    intro m
    induction m with
    | zero =>
      unfold allT
      rw [hp]
      simp [hf]
    | succ m ih =>
      rw [show i + 1 + (m + 1) = (i + 1 + m) + 1 by omega]
      unfold allT
      rw [ih]
      rfl
  have hl := (List.getElem?_eq_some_iff.1 hp).1
  obtain ⟨m, hm⟩ := Nat.exists_eq_add_of_le (show i + 1 ≤ l.length by omega)
  rw [hm]
  exact h m
theorem rpT_mono {n : Nat} {l : List PR} {i : Nat} (h : rpT n l (i + 1) = false) : ∀ m, rpT n l (i + 1 + m) = false := by
  intro m
  induction m with
  | zero => exact h
  | succ m ih =>
    rw [show i + 1 + (m + 1) = (i + 1 + m) + 1 by omega]
    unfold rpT
    rw [ih]
    rfl
theorem rpT_false {n : Nat} {l : List PR} {i : Nat} (hi : i < l.length) (h : rpT n l (i + 1) = false) : rpV n l = false := by
  unfold rpV
  obtain ⟨m, hm⟩ := Nat.exists_eq_add_of_le (show i + 1 ≤ l.length by omega)
  rw [hm]
  exact rpT_mono h m
/-- The first place that is bad; -1, if none is. -/
def FirstBad (bad : Nat → Bool) (n : Nat) (r : Int) : Prop := (r = -1 ∧ ∀ j, j < n → bad j = false) ∨ ∃ i : Nat, i < n ∧ r = (i : Int) ∧ bad i = true ∧ ∀ j, j < i → bad j = false
theorem FirstBad.eq {b1 b2 : Nat → Bool} {n : Nat} {r1 r2 : Int} (h1 : FirstBad b1 n r1) (h2 : FirstBad b2 n r2) (he : ∀ j, j < n → b1 j = b2 j) : r1 = r2 := by
  rcases h1 with ⟨h1, a1⟩ | ⟨i, hi, rfl, hb, a1⟩
  · rcases h2 with ⟨h2, a2⟩ | ⟨k, hk, rfl, hb2, a2⟩
    · omega
    · have := a1 k hk
      rw [he k hk, hb2] at this
      cases this
  · rcases h2 with ⟨h2, a2⟩ | ⟨k, hk, rfl, hb2, a2⟩
    · have := a2 i hi
      rw [← he i hi, hb] at this
      cases this
    · rcases Nat.lt_trichotomy i k with h | h | h
      · have := a2 i h
        rw [← he i hi, hb] at this
        cases this
      · rw [h]
      · have := a1 k h
        rw [he k hk, hb2] at this
        cases this
def badP (l : List SH) (i : Nat) : Bool := match l[i]? with
  | some s => !prP s.p l.length || !tL l i || !dstV s.ps || !whV l.length s.ps
  | none => false
def badR (l : List SH) (i : Nat) : Bool := match l[i]? with
  | some s => (!nulV s.p && !obR s.p l.length) || !tL l i || !rpV l.length s.ps
  | none => false
theorem bad_same {l : List SH} (hn : l.length ≤ 65536) (i : Nat) : badP l i = badR l i := by
  unfold badP badR
  cases l[i]? with
  | none => rfl
  | some s =>
    dsimp only
    rw [← props_same _ hn]
    unfold prP
    rw [ob_same _ _ hn, nul_same]
    cases nulV s.p <;> cases obR s.p l.length <;> cases tL l i <;> cases dstV s.ps <;> cases whV l.length s.ps <;> rfl
end Go.Proofs.YtmpdhmdmfmgamaaDoor
