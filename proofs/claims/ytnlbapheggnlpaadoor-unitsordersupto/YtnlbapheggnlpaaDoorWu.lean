import Derived.Test.YtnlbapheggnlpaaDoorWt
namespace Go.Proofs.YtnlbapheggnlpaaDoor
open Go.RowKit Go.Shelf

theorem at_get {l m : List Nat} {k : Nat} (h : M.At l m k) : ∀ q, q < m.length → l.getD (k + q) 0 = m.getD q 0 := by
  intro q hq
  obtain ⟨h1, h2⟩ := h
  have e := congrArg (·[q]?) h2
  simp only [List.getElem?_take, if_pos hq, List.getElem?_drop] at e
  rw [List.getD_eq_getElem?_getD, e, ← List.getD_eq_getElem?_getD]
theorem at_of_all {l m : List Nat} {k : Nat} (h1 : k + m.length ≤ l.length) (h : ∀ q, q < m.length → l.getD (k + q) 0 = m.getD q 0) : M.At l m k := by
  refine ⟨h1, ?_⟩
  apply List.ext_getElem?
  intro q
  by_cases hq : q < m.length
  · rw [List.getElem?_take, if_pos hq, List.getElem?_drop, getD_some (by omega), getD_some hq, h q hq]
  · rw [List.getElem?_take, if_neg hq, List.getElem?_eq_none (by omega)]

set_option maxHeartbeats 4000000 in
set_option maxRecDepth 100000 in
theorem refIndex_any (a b : ByteArray) (f : Int) (hsa : a.size ≤ 1099511627776) (hsb : b.size ≤ 1099511627776) (w : World) :
    Calls Tryd.prog 33 #[.string a, .string b, .int .i64 f] w fun e w' => ∃ r : Int, e = .returned (.tuple #[.int .i64 r, .int .i64 (cmE a b)]) ∧ IdxP a b f r ∧ Below w.heap.size w w' := by
  have hua := refUnits_any a hsa w
  have HUB := hide (fun w => refUnits_any b hsb w)
  have hla := unS_len a; have hlb := unS_len b
  have hok : vS a = true → vS b = true → (∀ r, M.FirstAt (unS a) (unS b) f.toNat r → IdxP a b f r) ∧ cmE a b = 0 := fun h h' => by
    refine ⟨fun r hr => ⟨fun _ => hr, fun hq => ?_⟩, ?_⟩
    · unfold okC' at hq; rw [h, h'] at hq; cases hq
    · unfold cmE okC'; rw [h, h']; rfl
  have hbad : (vS a && vS b) = false → IdxP a b f 0 ∧ cmE a b = 10 := fun h => by
    refine ⟨⟨fun hq => ?_, fun _ => rfl⟩, ?_⟩
    · unfold okC' at hq; rw [h] at hq; cases hq
    · unfold cmE okC'; rw [h]; rfl
  have ea := @erS_ok' a; have eb := @erS_ok' b; have ea' := @erS_bad' a; have eb' := @erS_bad' b
  generalize IdxP a b f = IP at *
  generalize cmE a b = CE at *
  generalize unS a = la at *
  generalize unS b = lb at *
  generalize erS a = xa at *
  generalize erS b = xb at *
  generalize vS a = va at *
  generalize vS b = vb at *
  have HUA := hide hua; clear hua
  cases va with
  | false =>
    obtain ⟨hi0, rfl⟩ := hbad rfl
    obtain rfl := ea' rfl
    clear hbad hok ea ea' eb eb'
    go_enter Tryd.func33, Tryd.ntmps33
    go_wp2_with fail
    refine (unhide HUA).mono ?_
    rintro e w1 ⟨v1, rfl, hown1, hb1⟩
    go_wp2_with fail
    refine (unhide HUB w1).mono ?_
    rintro e w2 ⟨v2, rfl, hown2, hb2⟩
    go_wp2
    go_ret2
    exact ⟨0, rfl, hi0, hb1.trans (hb2.mono hb1.size)⟩
  | true =>
    obtain rfl := ea rfl
    cases vb with
    | false =>
      obtain ⟨hi0, rfl⟩ := hbad rfl
      obtain rfl := eb' rfl
      clear hbad hok ea ea' eb eb'
      go_enter Tryd.func33, Tryd.ntmps33
      go_wp2_with fail
      refine (unhide HUA).mono ?_
      rintro e w1 ⟨v1, rfl, hown1, hb1⟩
      go_wp2_with fail
      refine (unhide HUB w1).mono ?_
      rintro e w2 ⟨v2, rfl, hown2, hb2⟩
      go_wp2
      go_ret2
      exact ⟨0, rfl, hi0, hb1.trans (hb2.mono hb1.size)⟩
    | true =>
      obtain rfl := eb rfl
      obtain ⟨hip, rfl⟩ := hok rfl rfl
      clear hbad hok ea ea' eb eb'
      obtain ⟨f', hf', hfm⟩ : ∃ f' : Nat, f.toNat = f' ∧ max 0 f = (f' : Int) := ⟨f.toNat, rfl, by omega⟩
      rw [hf'] at hip
      have HIP := hide hip; clear hip
      have HF := hide hf'; clear hf'
      go_enter Tryd.func33, Tryd.ntmps33
      go_wp2_with fail
      refine (unhide HUA).mono ?_
      rintro e w1 ⟨v1, rfl, hown1, hb1⟩
      go_wp2_with fail
      refine (unhide HUB w1).mono ?_
      rintro e w2 ⟨v2, rfl, hown2, hb2⟩
      have hB2 := hb1.trans (hb2.mono hb1.size)
      obtain ⟨A, ca, rfl, hA⟩ := reads_open ((reads_own hown1).same hb2)
      obtain ⟨B, cb, rfl, hB⟩ := reads_open (reads_own hown2)
      have HA := hide hA; have HB := hide hB; clear hA hB
      go_wp2
      go_loopw [12] (fun kv wr => ∃ (k n : Nat), kv = .int .i64 (k : Nat) ∧ f' ≤ k ∧ (∀ j, f' ≤ j → j < k → ¬ M.At la lb j) ∧ wr = w2.drewN n) (fun kv _ => la.length + 1 - (intOf kv).toNat)
      case atStart => exact ⟨f', 0, rfl, Nat.le_refl _, fun j h1 h2 => by omega, rfl⟩
      case round =>
        obtain ⟨k, n, rfl, hfk, hno, rfl⟩ := hrel
        have HNO := hide hno; clear hno
        by_cases hle : k + lb.length ≤ la.length
        · have hle' : (k : Int) ≤ (la.length : Int) - (lb.length : Int) := by omega
          go_wp2
          go_loopw [13, 14] (fun bv iv wr => ∃ (q n : Nat) (b : Bool), bv = .bool b ∧ iv = .int .i64 (q : Nat) ∧ q ≤ lb.length ∧ (b = true → ∀ p, p < q → la.getD (k + p) 0 = lb.getD p 0) ∧ (b = false → ¬ M.At la lb k) ∧ wr = w2.drewN n) (fun _ iv _ => lb.length - (intOf iv).toNat)
          case atStart => exact ⟨0, n, true, rfl, rfl, Nat.zero_le _, fun _ p hp => (by omega), fun h => (by simp at h), rfl⟩
          case round =>
            obtain ⟨q, n2, bq, rfl, rfl, hq, hbt, hbf, rfl⟩ := hrel
            cases bq with
            | true =>
              have HBT := hide (hbt rfl); clear hbt hbf
              by_cases hql : q < lb.length
              · have hql' : (q : Int) < (lb.length : Int) := by omega
                have hkq : (k : Int) + (q : Int) < (la.length : Int) := by omega
                have hkq0 : (0 : Int) ≤ (k : Int) + (q : Int) := by omega
                have hq0 : (0 : Int) ≤ (q : Int) := by omega
                obtain ⟨b, off, rfl, _, hca⟩ := unhide HA (k + q) (by omega)
                obtain ⟨b', off', rfl, _, hcb⟩ := unhide HB q hql
                have hat : M.At la lb k → la.getD (k + q) 0 = lb.getD q 0 := fun h => at_get h q hql
                have hnx : la.getD (k + q) 0 = lb.getD q 0 → ∀ p, p < q + 1 → la.getD (k + p) 0 = lb.getD p 0 := fun h p hp => by
                  by_cases e : p = q
                  · subst e; exact h
                  · exact unhide HBT p (by omega)
                have HAT := hide hat; have HNX := hide hnx; clear hat hnx
                generalize la.getD (k + q) 0 = x at *
                generalize lb.getD q 0 = y at *
                go_wp2
                go_quiet (fail)
                go_wp2
                refine ⟨⟨q + 1, _, ((x : Int) == (y : Int)), rfl, rfl, by omega, fun h => unhide HNX (Int.ofNat.inj (by simpa using h)), fun h hA => ?_, rfl⟩, by simp [intOf]; omega⟩
                have := unhide HAT hA
                subst this; simp at h
              · have hql' : ¬ (q : Int) < (lb.length : Int) := by omega
                go_wp2
                go_ret2
                refine ⟨_, rfl, unhide HIP _ (.inr ⟨k, rfl, hfk, at_of_all hle (fun p hp => unhide HBT p (by omega)), unhide HNO⟩), hB2.trans (below_drewN' _ _ _)⟩
            | false =>
              have HBF := hide (hbf rfl); clear hbt hbf
              by_cases hql : q < lb.length
              · have hql' : (q : Int) < (lb.length : Int) := by omega
                go_wp2
                go_roundw
                case rel => exact ⟨k + 1, n2, by go_num, by omega, fun j h1 h2 => by
                  by_cases e : j = k
                  · subst e; exact unhide HBF
                  · exact unhide HNO j h1 (by omega), rfl⟩
                case measure => simp [intOf]; omega
              · have hql' : ¬ (q : Int) < (lb.length : Int) := by omega
                go_wp2
                go_roundw
                case rel => exact ⟨k + 1, n2, by go_num, by omega, fun j h1 h2 => by
                  by_cases e : j = k
                  · subst e; exact unhide HBF
                  · exact unhide HNO j h1 (by omega), rfl⟩
                case measure => simp [intOf]; omega
        · have hle' : ¬ (k : Int) ≤ (la.length : Int) - (lb.length : Int) := by omega
          go_wp2
          go_ret2
          refine ⟨-1, rfl, unhide HIP _ (.inl ⟨rfl, fun j hj hat => ?_⟩), hB2.trans (below_drewN' _ _ _)⟩
          by_cases e : j < k
          · exact unhide HNO j hj e hat
          · have := hat.1; omega
set_option maxHeartbeats 4000000 in
set_option maxRecDepth 100000 in
theorem law_orders (s t : ByteArray) (i : Int) (hs : s.size ≤ 1048576) (ht : t.size ≤ 1048576) (w : World) (hT : Lib.Utf8Tabs 0 1 w) :
    Calls Tryd.prog 6 #[.string s, .string t, .int .i64 i] w fun e w' => e = .returned (.bool true) ∧ Below w.heap.size w w' := by
  have HT := hide hT; clear hT
  go_enter Tryd.func6, Tryd.ntmps6
  go_wp2_with fail
  refine (compare_any s t (by omega) (by omega) w (unhide HT)).mono ?_
  rintro e w1 ⟨rfl, hb1⟩
  go_wp2_with fail
  refine (refCompare_any s t (by omega) (by omega) w1).mono ?_
  rintro e w2 ⟨rfl, hb2⟩
  have hB2 := hb1.trans (hb2.mono hb1.size)
  go_wp2_with fail
  refine (index_any s t i (by omega) (by omega) w2 (tabs_below (unhide HT) hB2)).mono ?_
  rintro e w3 ⟨a, rfl, ha, hb3⟩
  have hB3 := hB2.trans (hb3.mono hB2.size)
  have HA := hide ha; clear ha
  go_wp2_with fail
  refine (refIndex_any s t i (by omega) (by omega) w3).mono ?_
  rintro e w4 ⟨b, rfl, hb, hb4⟩
  have hB4 := hB3.trans (hb4.mono hB3.size)
  have hab : b = a := idx_unique hb (unhide HA)
  subst hab
  clear hb HA
  go_wp2
  go_ret
  refine ⟨?_, hB4⟩
  simp
end Go.Proofs.YtnlbapheggnlpaaDoor
