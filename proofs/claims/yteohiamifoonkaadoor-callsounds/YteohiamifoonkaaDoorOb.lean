import Derived.Test.YteohiamifoonkaaDoorDh
import Derived.Test.YteohiamifoonkaaDoorYa
import Derived.DeepKeys4
namespace Go.Proofs.YteohiamifoonkaaDoor
open Go Go.Proofs Go.Maps Go.RowKit
set_option linter.unusedSimpArgs false
set_option linter.unusedVariables false
/-- A key. -/
structure KK where
  s : ByteArray
  n : Int
def keyV (s : ByteArray) (n : Int) : Value := .agg #[.string s, .int .i64 n]
def KK.agg (k : KK) : Value := .agg #[.string k.s, .int .i64 k.n]
def KK.cs (k : KK) : List Value := [.string k.s, .int .i64 k.n]
theorem KK.ext' {a b : KK} (h1 : a.s = b.s) (h2 : a.n = b.n) : a = b := by cases a; cases b; cases h1; cases h2; rfl
theorem agg_key (k : KK) : keyV k.s k.n = k.agg := rfl
theorem below_alloc1 (w : World) (o : Obj) : Below w.heap.size w (w.alloc o) := (Below.refl _ _).alloc (Nat.le_refl _) _
section
attribute [local go_sem] bits_run run_store_float
/-- The value that a key is. -/
def kVal (s : ByteArray) (n : Int) : VV := if n = 0 then ⟨5, false, 0, s, 0⟩ else ⟨6, false, 0, s, n⟩
theorem kbelow2 (w : World) (o1 o2 : Obj) : Below w.heap.size w ((w.alloc o1).alloc o2) := ((Below.refl _ _).alloc (Nat.le_refl _) _).alloc (by simp) _
set_option maxRecDepth 100000 in
theorem asValue21 (s : ByteArray) (n : Int) (w : World) : Calls Tryd.prog 34 #[keyV s n] w fun e w' => e = .returned (kVal s n).agg ∧ Below w.heap.size w w' := by
  unfold keyV
  by_cases hn : n = 0
  · subst hn
    have e1 : kVal s 0 = ⟨5, false, 0, s, 0⟩ := by unfold kVal; rw [if_pos rfl]
    rw [e1]
    unfold VV.agg
    go_enter Tryd.func34, Tryd.ntmps34
    go_wp2
    simp [bodyPost, results, Tryd.results34, go_sem]
    exact kbelow2 ..
  · have e1 : kVal s n = ⟨6, false, 0, s, n⟩ := by unfold kVal; rw [if_neg hn]
    rw [e1]
    unfold VV.agg
    go_enter Tryd.func34, Tryd.ntmps34
    go_wp2
    simp [bodyPost, results, Tryd.results34, go_sem]
    exact kbelow2 ..
set_option maxRecDepth 100000 in
theorem keyCheck_any (s : ByteArray) (n : Int) (w : World) (hT : Lib.Utf8Tabs 1 2 w) : Calls Tryd.prog 23 #[keyV s n] w fun e w' => e = .returned (.int .i64 (errB (kVal s n).good)) ∧ Below w.heap.size w w' := by
  have HA := hide (fun w => asValue21 s n w)
  have HI := hide (fun w (hT : Lib.Utf8Tabs 1 2 w) => check_any (kVal s n) w hT)
  have HT := hide hT
  unfold keyV at *
  generalize (kVal s n).agg = v at *
  generalize errB (kVal s n).good = g at *
  clear hT
  go_enter Tryd.func23, Tryd.ntmps23
  go_wp2_with fail
  refine (unhide HA _).mono ?_
  rintro e w1 ⟨rfl, hb⟩
  have HB := hide (((below_alloc1 w _).trans (hb.mono (by simp))))
  clear hb
  go_wp2_with fail
  refine (unhide HI _ (tabs_below (unhide HT) (unhide HB))).mono ?_
  rintro e w2 ⟨rfl, hb2⟩
  have HB2 := hide ((unhide HB).trans (hb2.mono (unhide HB).size))
  clear hb2
  go_wp2
  go_ret
  exact ⟨rfl, unhide HB2⟩
def goodK (k : KK) : Bool := (kVal k.s k.n).good
theorem goodK_eq (k : KK) : goodK k = if k.n = 0 then decide (k.s.size ≤ 1048576) && vS k.s else decide (1 ≤ k.n) && decide (k.n ≤ 65536) && k.s.toList.isEmpty := by
  unfold goodK kVal
  by_cases h : k.n = 0
  · rw [if_pos h, if_pos h]
    simp [VV.good, goodV, inG, strV, fitV, vS]
  · rw [if_neg h, if_neg h]
    simp [VV.good, goodV, inG, strV]
    cases k.s.toList.isEmpty <;> simp
theorem goodK_size {k : KK} (h : goodK k = true) : k.s.size ≤ 1048576 := by
  rw [goodK_eq] at h
  by_cases hn : k.n = 0
  · rw [if_pos hn] at h
    simp at h
    exact h.1
  · rw [if_neg hn] at h
    simp only [Bool.and_eq_true] at h
    rw [empty_of h.2]
    decide
theorem goodK_n {k : KK} (h : goodK k = true) : 0 ≤ k.n ∧ k.n ≤ 65536 := by
  rw [goodK_eq] at h
  by_cases hn : k.n = 0
  · omega
  · rw [if_neg hn] at h
    simp at h
    omega
set_option maxHeartbeats 20000000 in
set_option maxRecDepth 100000 in
theorem refGoodK (k : KK) (w : World) : Calls Tryd.prog 25 #[k.agg] w fun e w' => e = .returned (.bool (goodK k)) ∧ Below w.heap.size w w' := by
  have LL := hide (Hq.nil w [])
  rw [goodK_eq]
  by_cases hn : k.n = 0
  · rw [if_pos hn]
    have hn2 : (k.n != 0) = false := by simp [hn]
    clear hn
    by_cases hz : k.s.size ≤ 1048576
    · have HV := hide (refValid_any k.s (by omega))
      have hz2 : (k.s.size : Int) ≤ 1048576 := by omega
      rw [decide_eq_true hz, Bool.true_and]
      generalize vS k.s = vs at *
      have hq0 : k.agg = .agg #[.string k.s, .int .i64 k.n] := rfl
      rw [hq0]
      clear hq0
      go_enter Tryd.func25, Tryd.ntmps25
      go_wp2_with (first | go_skip | ((with_reducible show wpList _ _ _ _ _ _); first | ((refine bx 29 (k.cs) (by rfl) rfl rfl rfl (Nat.succ_pos _) (unhide LL) ?_); intro X1 B1 hE1 L1 hb1; have hB1 := hide (Nat.le_trans (unhide LL).fr.size (Nat.le_of_eq hE1.symm)); replace LL := hide L1; clear L1 hb1 hE1; simp only [Act.put, List.setIfInBounds_toArray, List.set_cons_succ, List.set_cons_zero]) | ((refine rd (by rfl) (ex_load1 9 Tryd.isAgg9 rfl rfl ((unhide LL).get 0 rfl) rfl) ?_); simp only [Act.put, List.setIfInBounds_toArray, List.set_cons_succ, List.set_cons_zero]) | ((refine rd (by rfl) (ex_load1 3 Tryd.isAgg3 rfl rfl ((unhide LL).get 0 rfl) rfl) ?_); simp only [Act.put, List.setIfInBounds_toArray, List.set_cons_succ, List.set_cons_zero])))
      refine (unhide HV _).mono ?_
      rintro _ w1 ⟨rfl, hb⟩
      replace LL := hide ((unhide LL).on hb)
      clear hb
      go_wp2_with (first | go_skip | ((with_reducible show wpList _ _ _ _ _ _); first | ((refine bx 29 (k.cs) (by rfl) rfl rfl rfl (Nat.succ_pos _) (unhide LL) ?_); intro X1 B1 hE1 L1 hb1; have hB1 := hide (Nat.le_trans (unhide LL).fr.size (Nat.le_of_eq hE1.symm)); replace LL := hide L1; clear L1 hb1 hE1; simp only [Act.put, List.setIfInBounds_toArray, List.set_cons_succ, List.set_cons_zero]) | ((refine rd (by rfl) (ex_load1 9 Tryd.isAgg9 rfl rfl ((unhide LL).get 0 rfl) rfl) ?_); simp only [Act.put, List.setIfInBounds_toArray, List.set_cons_succ, List.set_cons_zero]) | ((refine rd (by rfl) (ex_load1 3 Tryd.isAgg3 rfl rfl ((unhide LL).get 0 rfl) rfl) ?_); simp only [Act.put, List.setIfInBounds_toArray, List.set_cons_succ, List.set_cons_zero])))
      go_ret
      exact ⟨rfl, (unhide LL).fr.below⟩
    · have hz2 : ¬ (k.s.size : Int) ≤ 1048576 := by omega
      rw [decide_eq_false hz, Bool.false_and]
      have hq0 : k.agg = .agg #[.string k.s, .int .i64 k.n] := rfl
      rw [hq0]
      clear hq0
      go_enter Tryd.func25, Tryd.ntmps25
      go_wp2_with (first | go_skip | ((with_reducible show wpList _ _ _ _ _ _); first | ((refine bx 29 (k.cs) (by rfl) rfl rfl rfl (Nat.succ_pos _) (unhide LL) ?_); intro X1 B1 hE1 L1 hb1; have hB1 := hide (Nat.le_trans (unhide LL).fr.size (Nat.le_of_eq hE1.symm)); replace LL := hide L1; clear L1 hb1 hE1; simp only [Act.put, List.setIfInBounds_toArray, List.set_cons_succ, List.set_cons_zero]) | ((refine rd (by rfl) (ex_load1 9 Tryd.isAgg9 rfl rfl ((unhide LL).get 0 rfl) rfl) ?_); simp only [Act.put, List.setIfInBounds_toArray, List.set_cons_succ, List.set_cons_zero]) | ((refine rd (by rfl) (ex_load1 3 Tryd.isAgg3 rfl rfl ((unhide LL).get 0 rfl) rfl) ?_); simp only [Act.put, List.setIfInBounds_toArray, List.set_cons_succ, List.set_cons_zero])))
      go_ret
      exact ⟨rfl, (unhide LL).fr.below⟩
  · rw [if_neg hn]
    have hn2 : (k.n != 0) = true := by simp [hn]
    have hn3 : (k.n == 0) = false := by simp [hn]
    clear hn
    by_cases h1 : 1 ≤ k.n
    · rw [decide_eq_true h1, Bool.true_and]
      by_cases h2 : k.n ≤ 65536
      · rw [decide_eq_true h2, Bool.true_and]
        have he : (k.s.toList == []) = k.s.toList.isEmpty := by cases k.s.toList <;> rfl
        generalize hem : k.s.toList.isEmpty = em at *
        have hq0 : k.agg = .agg #[.string k.s, .int .i64 k.n] := rfl
        rw [hq0]
        clear hq0
        go_enter Tryd.func25, Tryd.ntmps25
        go_wp2_with (first | go_skip | ((with_reducible show wpList _ _ _ _ _ _); first | ((refine bx 29 (k.cs) (by rfl) rfl rfl rfl (Nat.succ_pos _) (unhide LL) ?_); intro X1 B1 hE1 L1 hb1; have hB1 := hide (Nat.le_trans (unhide LL).fr.size (Nat.le_of_eq hE1.symm)); replace LL := hide L1; clear L1 hb1 hE1; simp only [Act.put, List.setIfInBounds_toArray, List.set_cons_succ, List.set_cons_zero]) | ((refine rd (by rfl) (ex_load1 9 Tryd.isAgg9 rfl rfl ((unhide LL).get 0 rfl) rfl) ?_); simp only [Act.put, List.setIfInBounds_toArray, List.set_cons_succ, List.set_cons_zero]) | ((refine rd (by rfl) (ex_load1 3 Tryd.isAgg3 rfl rfl ((unhide LL).get 0 rfl) rfl) ?_); simp only [Act.put, List.setIfInBounds_toArray, List.set_cons_succ, List.set_cons_zero])))
        go_ret
        exact ⟨by simp [he], (unhide LL).fr.below⟩
      · rw [decide_eq_false h2, Bool.false_and]
        have hq0 : k.agg = .agg #[.string k.s, .int .i64 k.n] := rfl
        rw [hq0]
        clear hq0
        go_enter Tryd.func25, Tryd.ntmps25
        go_wp2_with (first | go_skip | ((with_reducible show wpList _ _ _ _ _ _); first | ((refine bx 29 (k.cs) (by rfl) rfl rfl rfl (Nat.succ_pos _) (unhide LL) ?_); intro X1 B1 hE1 L1 hb1; have hB1 := hide (Nat.le_trans (unhide LL).fr.size (Nat.le_of_eq hE1.symm)); replace LL := hide L1; clear L1 hb1 hE1; simp only [Act.put, List.setIfInBounds_toArray, List.set_cons_succ, List.set_cons_zero]) | ((refine rd (by rfl) (ex_load1 9 Tryd.isAgg9 rfl rfl ((unhide LL).get 0 rfl) rfl) ?_); simp only [Act.put, List.setIfInBounds_toArray, List.set_cons_succ, List.set_cons_zero]) | ((refine rd (by rfl) (ex_load1 3 Tryd.isAgg3 rfl rfl ((unhide LL).get 0 rfl) rfl) ?_); simp only [Act.put, List.setIfInBounds_toArray, List.set_cons_succ, List.set_cons_zero])))
        go_ret
        exact ⟨rfl, (unhide LL).fr.below⟩
    · rw [decide_eq_false h1, Bool.false_and, Bool.false_and]
      have hq0 : k.agg = .agg #[.string k.s, .int .i64 k.n] := rfl
      rw [hq0]
      clear hq0
      go_enter Tryd.func25, Tryd.ntmps25
      go_wp2_with (first | go_skip | ((with_reducible show wpList _ _ _ _ _ _); first | ((refine bx 29 (k.cs) (by rfl) rfl rfl rfl (Nat.succ_pos _) (unhide LL) ?_); intro X1 B1 hE1 L1 hb1; have hB1 := hide (Nat.le_trans (unhide LL).fr.size (Nat.le_of_eq hE1.symm)); replace LL := hide L1; clear L1 hb1 hE1; simp only [Act.put, List.setIfInBounds_toArray, List.set_cons_succ, List.set_cons_zero]) | ((refine rd (by rfl) (ex_load1 9 Tryd.isAgg9 rfl rfl ((unhide LL).get 0 rfl) rfl) ?_); simp only [Act.put, List.setIfInBounds_toArray, List.set_cons_succ, List.set_cons_zero]) | ((refine rd (by rfl) (ex_load1 3 Tryd.isAgg3 rfl rfl ((unhide LL).get 0 rfl) rfl) ?_); simp only [Act.put, List.setIfInBounds_toArray, List.set_cons_succ, List.set_cons_zero])))
      go_ret
      exact ⟨rfl, (unhide LL).fr.below⟩

end
theorem laidOut : laidOutB Tryd.prog = true := by kernel_rfl
theorem rowk41 : (29 : TypeId) < Tryd.prog.types.size := of_decide_eq_true (by kernel_rfl)
theorem key41 : Tryd.prog.keyTypeAt 2 29 = true := by kernel_rfl
theorem law41 : Keyed Tryd.prog 29 := Keyed.of_law (deep_law_laid laidOut (m := 2) (by omega) rowk41 key41 (by rw [Tryd.underlying29]))
theorem keyT41 : Tryd.prog.keyType 29 = true := by kernel_rfl
theorem size_types' : decide ((1 : Nat) ≤ Tryd.prog.types.size) = true := by kernel_rfl
theorem size_types : ∃ n : Nat, Tryd.prog.types.size + 1 = n + 2 := by
  have h : (1 : Nat) ≤ Tryd.prog.types.size := of_decide_eq_true size_types'
  generalize Tryd.prog.types.size = m at h
  exact ⟨m - 1, by omega⟩
/-- What a key reads as. -/
def klit (s : ByteArray) (n : Int) : Lit := .string (keyBytes [.string s.data.toList, .int .i64 n])
theorem keyOf41 (s : ByteArray) (n : Int) (hs : s.size ≤ maxLen) (hn : (Lit.int .i64 n).wf = true) : keyOf Tryd.prog 29 (.agg #[.string s, .int .i64 n]) = some (klit s n) := by
  obtain ⟨N, hN⟩ := size_types
  unfold keyOf
  rw [Tryd.underlying29]
  simp only []
  rw [hN]
  have c41 : Tryd.prog.cellsOf 29 = 2 := by kernel_rfl
  have hf : Value.formed Tryd.prog 29 (.agg #[.string s, .int .i64 n]) = true := by
    simp [Value.formed, Tryd.underlying29, Tryd.underlying3, Tryd.underlying9, c41]
  have c9 : Tryd.prog.cellsOf 9 = 1 := by kernel_rfl
  have c3 : Tryd.prog.cellsOf 3 = 1 := by kernel_rfl
  rw [hf, keyT41]
  simp [Program.keyLits, Tryd.underlying29, Tryd.underlying3, Tryd.underlying9, c9, c3, c41, hs, hn, Value.cells, klit]
theorem klit_inj {s s' : ByteArray} {n n' : Int} (hs : s.size ≤ maxLen) (hn : (Lit.int .i64 n).wf = true) (hs' : s'.size ≤ maxLen) (hn' : (Lit.int .i64 n').wf = true) (h : klit s n = klit s' n') : s = s' ∧ n = n' := by
  have := law41.inj (keyOf41 s n hs hn) (h ▸ keyOf41 s' n' hs' hn')
  simpa using this
theorem klit_key {s : ByteArray} {n : Int} (hs : s.size ≤ maxLen) (hn : (Lit.int .i64 n).wf = true) : WideAt.IsKeyLit (klit s n) := law41.key (keyOf41 s n hs hn)
def OkK (k : KK) : Prop := k.s.size ≤ maxLen ∧ (Lit.int .i64 k.n).wf = true
def kl (k : KK) : Lit := klit k.s k.n
theorem keyOfK {k : KK} (h : OkK k) : keyOf Tryd.prog 29 k.agg = some (kl k) := keyOf41 k.s k.n h.1 h.2
theorem kl_inj {k k' : KK} (h : OkK k) (h' : OkK k') (e : kl k = kl k') : k = k' := by
  obtain ⟨h1, h2⟩ := klit_inj h.1 h.2 h'.1 h'.2 e
  exact KK.ext' h1 h2
theorem kl_key {k : KK} (h : OkK k) : WideAt.IsKeyLit (kl k) := klit_key h.1 h.2
end Go.Proofs.YteohiamifoonkaaDoor
