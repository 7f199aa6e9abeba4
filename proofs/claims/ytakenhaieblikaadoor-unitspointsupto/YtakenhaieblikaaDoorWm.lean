import Derived.Test.YtakenhaieblikaaDoorWl
import Derived.Test.YtakenhaieblikaaDoorMathb
import Derived.Test.YtakenhaieblikaaDoorShelfJ
import Derived.Deep.QuietTactic
import Derived.BigQuiet
import Derived.LoopTactic
namespace Go.Proofs.YtakenhaieblikaaDoor
open Go.RowKit Go.Shelf

def badB (s : ByteArray) (i k : Int) : Bool := decide (i < 0) || decide (k < i) || decide (((unS s).length : Int) < k)
/-- What Slice answers: the bytes, and the error. -/
def slL (s : ByteArray) (i k : Int) : List Nat := if vS s && !badB s i k then M.ofL (((unS s).drop i.toNat).take (k.toNat - i.toNat)) else []
def slE (s : ByteArray) (i k : Int) : Int := if vS s then (if badB s i k then 7 else 0) else 10
theorem unS_small (s : ByteArray) : ∀ x ∈ unS s, x < 65536 := by
  unfold unS; split
  · exact rdL_small s
  · simp
theorem unS_len (s : ByteArray) : (unS s).length ≤ s.size := by
  unfold unS; split
  · exact rdL_len s
  · simp
theorem reads_cut {w : World} {A : Option Addr} {c : Nat} {l : List Nat} {i k : Nat} (h : Reads w (.slice A l.length c) l) (hik : i ≤ k) (hk : k ≤ l.length) (hc : l.length ≤ c) :
    ∃ A', (A = none → A' = none) ∧ (∀ b off, A = some ⟨b, off, none⟩ → A' = some ⟨b, off + i, none⟩) ∧ Reads w (.slice A' (k - i) (c - i)) ((l.drop i).take (k - i)) := by
  have hlen : ((l.drop i).take (k - i)).length = k - i := by rw [List.length_take, List.length_drop]; omega
  rcases h with ⟨A', c', h1, h2⟩ | ⟨b, off, cap, h1, hlt, hcell⟩
  · simp only [Value.slice.injEq] at h1
    obtain ⟨rfl, h3, rfl⟩ := h1
    subst h2
    have : k - i = 0 := by simp at hk; omega
    cases A with
    | none => exact ⟨none, fun _ => rfl, fun _ _ h => by simp at h, .inl ⟨none, _, by rw [this], by simp⟩⟩
    | some x =>
      obtain ⟨b, off, sp⟩ := x
      exact ⟨some ⟨b, off + i, none⟩, fun h => by simp at h, fun b' off' h => by simp at h; obtain ⟨rfl, rfl, _⟩ := h; rfl, .inl ⟨_, _, by rw [this], by simp⟩⟩
  · simp only [Value.slice.injEq, true_and] at h1
    obtain ⟨rfl, rfl⟩ := h1
    refine ⟨some ⟨b, off + i, none⟩, fun h => by simp at h, fun b' off' h => by simp at h; obtain ⟨rfl, rfl⟩ := h; rfl, .inr ⟨b, off + i, c - i, by rw [hlen], hlt, fun j hj => ?_⟩⟩
    rw [hlen] at hj
    rw [Nat.add_assoc, hcell (i + j) (by omega)]
    rw [List.getD_eq_getElem?_getD, List.getD_eq_getElem?_getD, List.getElem?_take, if_pos hj, List.getElem?_drop]

set_option maxHeartbeats 1000000 in
set_option maxRecDepth 100000 in
theorem slice_any (s : ByteArray) (i k : Int) (hsz : s.size ≤ 1099511627776) (w : World) (hT : Lib.Utf8Tabs 0 1 w) :
    Calls Tryd.prog 26 #[.string s, .int .i64 i, .int .i64 k] w fun e w' => ∃ t, e = .returned (.tuple #[.string t, .int .i64 (slE s i k)]) ∧ nums t = slL s i k ∧ Below w.heap.size w w' := by
  have hua := units_any s hsz w hT
  have hsm := unS_small s
  have hul := unS_len s
  unfold slE slL badB
  unfold erS at hua
  generalize hvs : vS s = b at *
  have HVS := hide hvs; clear hvs
  generalize unS s = l at *
  have HUA := hide hua; clear hua
  have HSM := hide hsm; clear hsm
  cases b with
  | false =>
    go_enter Tryd.func26, Tryd.ntmps26
    go_wp2_with fail
    refine (unhide HUA).mono ?_
    rintro e w1 ⟨va, rfl, hown, hb⟩
    go_wp2
    go_ret2
    exact ⟨_, rfl, rfl, hb⟩
  | true =>
    go_enter Tryd.func26, Tryd.ntmps26
    go_wp2_with fail
    refine (unhide HUA).mono ?_
    rintro e w1 ⟨va, rfl, hown, hb⟩
    obtain ⟨A, c, hva, hcap, hA⟩ : ∃ A c, va = .slice A l.length c ∧ l.length ≤ c ∧ (A = none ∧ c = 0 ∨ ∃ g, A = some ⟨g, 0, none⟩) := by
      rcases hown.2 with ⟨h1, h2⟩ | ⟨g, c, cur, h1, h2, h3, h4, _⟩
      · exact ⟨none, 0, by rw [h2, h1], by omega, .inl ⟨rfl, rfl⟩⟩
      · exact ⟨_, _, h1, h4, .inr ⟨g, rfl⟩⟩
    subst hva
    by_cases c1 : i < 0
    · go_wp2
      go_ret2
      exact ⟨_, rfl, rfl, hb⟩
    by_cases c2 : k < i
    · have c1' : ¬ i < 0 := c1
      go_wp2
      go_ret2
      exact ⟨_, rfl, rfl, hb⟩
    by_cases c3 : (l.length : Int) < k
    · go_wp2
      go_ret2
      exact ⟨_, rfl, rfl, hb⟩
    · obtain ⟨i', rfl⟩ := Int.eq_ofNat_of_zero_le (show 0 ≤ i by omega)
      obtain ⟨k', rfl⟩ := Int.eq_ofNat_of_zero_le (show 0 ≤ k by omega)
      obtain ⟨A', hn, hs, hrd⟩ := reads_cut (reads_own hown) (i := i') (k := k') (by omega) (by omega) hcap
      have d1 : (i' : Int) ≤ (k' : Int) := by omega
      have d2 : (k' : Int) ≤ (l.length : Int) := by omega
      have d3 : (k' : Int) ≤ (c : Int) := by omega
      have hsm' : ∀ x ∈ (l.drop i').take (k' - i'), x < 65536 := fun x hx => unhide HSM x (List.mem_of_mem_drop (List.mem_of_mem_take hx))
      have hlen' : ((l.drop i').take (k' - i')).length ≤ 1099511627776 := by
        have h1 := List.length_take_le (k' - i') (l.drop i')
        omega
      have hem : c - i' = 0 → k' - i' = 0 ∧ (l.drop i').take (k' - i') = [] := fun h => by
        have : k' - i' = 0 := by omega
        exact ⟨this, by rw [this]; simp⟩
      have HEM := hide hem; clear hem
      rcases hA with ⟨rfl, rfl⟩ | ⟨g, rfl⟩
      · have e1 := hn rfl
        subst e1
        go_wp2_with fail
        refine (of_any _ ((l.drop i').take (k' - i')) hsm' hlen' w1 (.inl ⟨none, _, by rw [(unhide HEM (by omega)).1], (unhide HEM (by omega)).2⟩)).mono ?_
        rintro e w2 ⟨t, rfl, ht, hb2⟩
        have HTT := hide ht; clear ht
        go_wp2
        go_ret2
        refine ⟨_, rfl, ?_, hb.trans (hb2.mono hb.size)⟩
        exact unhide HTT
      · have e1 := hs g 0 rfl
        subst e1
        by_cases hce : c - i' = 0
        · obtain ⟨z1, z2⟩ := unhide HEM hce
          have HZ1 := hide z1; have HZ2 := hide z2
          go_wp2_with fail
          refine (of_any _ [] (by simp) (by simp) w1 (.inl ⟨_, _, rfl, rfl⟩)).mono ?_
          rintro e w2 ⟨t, rfl, ht, hb2⟩
          have HTT := hide ht; clear ht z1 z2
          go_wp2
          go_ret2
          refine ⟨_, rfl, ?_, hb.trans (hb2.mono hb.size)⟩
          rw [unhide HTT]
          first | rw [unhide HZ2] | (simp only [Int.toNat_natCast]; rw [unhide HZ2])
        · rw [Nat.zero_add] at hrd
          go_wp2_with fail
          refine (of_any _ ((l.drop i').take (k' - i')) hsm' hlen' w1 hrd).mono ?_
          rintro e w2 ⟨t, rfl, ht, hb2⟩
          have HTT := hide ht; clear ht
          go_wp2
          go_ret2
          refine ⟨_, rfl, ?_, hb.trans (hb2.mono hb.size)⟩
          exact unhide HTT
set_option maxHeartbeats 1000000 in
set_option maxRecDepth 100000 in
theorem refSlice_any (s : ByteArray) (i k : Int) (hsz : s.size ≤ 1099511627776) (w : World) :
    Calls Tryd.prog 27 #[.string s, .int .i64 i, .int .i64 k] w fun e w' => ∃ t, e = .returned (.tuple #[.string t, .int .i64 (slE s i k)]) ∧ nums t = slL s i k ∧ Below w.heap.size w w' := by
  have hua := refUnits_any s hsz w
  have hsm := unS_small s
  have hul := unS_len s
  unfold slE slL badB
  unfold erS at hua
  generalize hvs : vS s = b at *
  have HVS := hide hvs; clear hvs
  generalize unS s = l at *
  have HUA := hide hua; clear hua
  have HSM := hide hsm; clear hsm
  cases b with
  | false =>
    go_enter Tryd.func27, Tryd.ntmps27
    go_wp2_with fail
    refine (unhide HUA).mono ?_
    rintro e w1 ⟨va, rfl, hown, hb⟩
    go_wp2
    go_ret2
    exact ⟨_, rfl, rfl, hb⟩
  | true =>
    go_enter Tryd.func27, Tryd.ntmps27
    go_wp2_with fail
    refine (unhide HUA).mono ?_
    rintro e w1 ⟨va, rfl, hown, hb⟩
    obtain ⟨A, c, hva, hcap, hA⟩ : ∃ A c, va = .slice A l.length c ∧ l.length ≤ c ∧ (A = none ∧ c = 0 ∨ ∃ g, A = some ⟨g, 0, none⟩) := by
      rcases hown.2 with ⟨h1, h2⟩ | ⟨g, c, cur, h1, h2, h3, h4, _⟩
      · exact ⟨none, 0, by rw [h2, h1], by omega, .inl ⟨rfl, rfl⟩⟩
      · exact ⟨_, _, h1, h4, .inr ⟨g, rfl⟩⟩
    subst hva
    by_cases c1 : i < 0
    · go_wp2
      go_ret2
      exact ⟨_, rfl, rfl, hb⟩
    by_cases c2 : k < i
    · have c1' : ¬ i < 0 := c1
      go_wp2
      go_ret2
      exact ⟨_, rfl, rfl, hb⟩
    by_cases c3 : (l.length : Int) < k
    · go_wp2
      go_ret2
      exact ⟨_, rfl, rfl, hb⟩
    · obtain ⟨i', rfl⟩ := Int.eq_ofNat_of_zero_le (show 0 ≤ i by omega)
      obtain ⟨k', rfl⟩ := Int.eq_ofNat_of_zero_le (show 0 ≤ k by omega)
      obtain ⟨A', hn, hs, hrd⟩ := reads_cut (reads_own hown) (i := i') (k := k') (by omega) (by omega) hcap
      have d1 : (i' : Int) ≤ (k' : Int) := by omega
      have d2 : (k' : Int) ≤ (l.length : Int) := by omega
      have d3 : (k' : Int) ≤ (c : Int) := by omega
      have hsm' : ∀ x ∈ (l.drop i').take (k' - i'), x < 65536 := fun x hx => unhide HSM x (List.mem_of_mem_drop (List.mem_of_mem_take hx))
      have hlen' : ((l.drop i').take (k' - i')).length ≤ 1099511627776 := by
        have h1 := List.length_take_le (k' - i') (l.drop i')
        omega
      have hem : c - i' = 0 → k' - i' = 0 ∧ (l.drop i').take (k' - i') = [] := fun h => by
        have : k' - i' = 0 := by omega
        exact ⟨this, by rw [this]; simp⟩
      have HEM := hide hem; clear hem
      rcases hA with ⟨rfl, rfl⟩ | ⟨g, rfl⟩
      · have e1 := hn rfl
        subst e1
        go_wp2_with fail
        refine (refOf_any _ ((l.drop i').take (k' - i')) hsm' hlen' w1 (.inl ⟨none, _, by rw [(unhide HEM (by omega)).1], (unhide HEM (by omega)).2⟩)).mono ?_
        rintro e w2 ⟨t, rfl, ht, hb2⟩
        have HTT := hide ht; clear ht
        go_wp2
        go_ret2
        refine ⟨_, rfl, ?_, hb.trans (hb2.mono hb.size)⟩
        exact unhide HTT
      · have e1 := hs g 0 rfl
        subst e1
        by_cases hce : c - i' = 0
        · obtain ⟨z1, z2⟩ := unhide HEM hce
          have HZ1 := hide z1; have HZ2 := hide z2
          go_wp2_with fail
          refine (refOf_any _ [] (by simp) (by simp) w1 (.inl ⟨_, _, rfl, rfl⟩)).mono ?_
          rintro e w2 ⟨t, rfl, ht, hb2⟩
          have HTT := hide ht; clear ht z1 z2
          go_wp2
          go_ret2
          refine ⟨_, rfl, ?_, hb.trans (hb2.mono hb.size)⟩
          rw [unhide HTT]
          first | rw [unhide HZ2] | (simp only [Int.toNat_natCast]; rw [unhide HZ2])
        · rw [Nat.zero_add] at hrd
          go_wp2_with fail
          refine (refOf_any _ ((l.drop i').take (k' - i')) hsm' hlen' w1 hrd).mono ?_
          rintro e w2 ⟨t, rfl, ht, hb2⟩
          have HTT := hide ht; clear ht
          go_wp2
          go_ret2
          refine ⟨_, rfl, ?_, hb.trans (hb2.mono hb.size)⟩
          exact unhide HTT
end Go.Proofs.YtakenhaieblikaaDoor
