import Derived.Test.YtcflglloopgieaaKe
namespace Go.Proofs.Ytcflglloopgieaa
open Go Go.Proofs Go.Maps Go.RowKit FM
set_option linter.unusedSimpArgs false
set_option linter.unusedVariables false
set_option maxHeartbeats 1000000
theorem r7 {w : World} {b p : Nat} {s : SH} {SA : Option Addr} {sc : Nat} (h : w.rangeAt b p (s.cs SA sc)) : w.cell? ⟨b, p + 7, none⟩ = some (.slice SA s.ps.length sc) := h 7 _ rfl
def sumT (l : List SH) : Nat → Nat
  | 0 => 0
  | i + 1 => sumT l i + (l.getD i zeroS).ps.length
def FewPost (w : World) (l : List SH) (e : Ending) (X : World) : Prop := ∃ r : Bool, e = .returned (.bool r) ∧ (r = true → l.length ≤ 60 ∧ ∀ s ∈ l, s.ps.length ≤ 400) ∧ Below w.heap.size w X
theorem sumT_le {l : List SH} : ∀ {n i : Nat}, i < n → (l.getD i zeroS).ps.length ≤ sumT l n
  | 0, i, h => absurd h (Nat.not_lt_zero _)
  | n + 1, i, h => by
    rcases Nat.lt_succ_iff_lt_or_eq.1 h with h1 | h1
    · exact Nat.le_trans (sumT_le h1) (Nat.le_add_right _ _)
    · subst h1
      exact Nat.le_add_left _ _
theorem few_all {l : List SH} (h1 : l.length ≤ 60) (h2 : sumT l l.length ≤ 400) : ∀ s ∈ l, s.ps.length ≤ 400 := fun s hs => by
  obtain ⟨j, hj⟩ := List.getElem?_of_mem hs
  obtain ⟨hl, he⟩ := List.getElem?_eq_some_iff.1 hj
  have := sumT_le (l := l) hl
  rw [show l.getD j zeroS = s by simp [hj]] at this
  omega
set_option maxRecDepth 100000 in
theorem few_any (A : Option Addr) (cap : Nat) (l : List SH) (w : World) (hR : ReadsS w A l) : Calls Try.prog 4 #[.slice A l.length cap] w (FewPost w l) := by
  have LL := hide (Hq.nil w [])
  have HR := hide hR
  clear hR
  go_enter Try.func4, Try.ntmps4
  go_wp2_with (first | go_skip | ((with_reducible show wpList _ _ _ _ _ _); first | ((refine rd (by rfl) (ex_lenG 22 48 Try.underlying22 rfl rfl) ?_); simp only [Act.put, List.setIfInBounds_toArray, List.set_cons_succ, List.set_cons_zero])))
  go_loopg [3, 4] 61 (fun gm s3 s4 wr => ∃ i : Nat, s4 = .int .i64 (i : Nat) ∧ s3 = .int .i64 (sumT l i : Nat) ∧ i ≤ l.length ∧ i ≤ 61 ∧ 61 - i ≤ gm ∧ sumT l i ≤ 733007751850 * i ∧ Hid (Hq w wr [] []))
  case atStart => exact ⟨0, rfl, rfl, by omega, by omega, by omega, by simp [sumT], LL⟩
  case round =>
    clear LL
    obtain ⟨i, rfl, rfl, hil, hi6, hgm, hsm, LL⟩ := hrel
    by_cases hlt : i < l.length ∧ i ≤ 60
    · obtain ⟨hlt, h60⟩ := hlt
      have dlt : decide ((i : Int) < (l.length : Int)) = true := decide_eq_true (by omega)
      have d60 : decide ((i : Int) ≤ 60) = true := decide_eq_true (by omega)
      have hw1 : IntKind.i64.wrap ((i : Int) + 1) = (i : Int) + 1 := by rw [IntKind.wrap_i64]; omega
      obtain ⟨s, hs⟩ : ∃ s, l[i]? = some s := ⟨_, List.getElem?_eq_getElem hlt⟩
      obtain ⟨_, hsl, b, off, SA, sc, hA, hb, _, hrg⟩ := (unhide HR) i s hs
      have HA := hide hA
      have H7 : Hid (∀ X, Fr w X [] → X.cell? ⟨b, off + i * 8 + 7, none⟩ = some (.slice SA s.ps.length sc)) := hide (fun X hX => r7 (rangeAt_fr hrg hb hX))
      have hs1 : sumT l (i + 1) = sumT l i + s.ps.length := by rw [sumT, show l.getD i zeroS = s by simp [hs]]
      have hw2 : IntKind.i64.wrap ((sumT l i : Int) + (s.ps.length : Int)) = (sumT l (i + 1) : Nat) := by rw [hs1, IntKind.wrap_i64]; omega
      have hsm2 : sumT l (i + 1) ≤ 733007751850 * (i + 1) := by rw [hs1]; omega
      have HLT := hide hlt
      have H60 := hide h60
      have HS2 := hide hsm2
      clear hA hb hrg hs hs1 hsl hlt hil hi6 h60 hsm hsm2
      go_wp2_with (first | go_skip | ((with_reducible show wpList _ _ _ _ _ _); first | ((refine rd (by rfl) (ex_lenG 22 48 Try.underlying22 rfl rfl) ?_); simp only [Act.put, List.setIfInBounds_toArray, List.set_cons_succ, List.set_cons_zero]) | ((refine rd (by rfl) (ex_indexA 22 8 i unSs idSs rfl rfl (unhide HA) rfl (unhide HLT)) ?_); simp only [Act.put, List.setIfInBounds_toArray, List.set_cons_succ, List.set_cons_zero]) | ((refine rd (by rfl) (ex_loadC 46 Try.isAgg46 rfl rfl (unhide H7 _ (unhide LL).fr)) ?_); simp only [Act.put, List.setIfInBounds_toArray, List.set_cons_succ, List.set_cons_zero]) | ((refine rd (by rfl) (ex_lenG 46 56 Try.underlying46 rfl rfl) ?_); simp only [Act.put, List.setIfInBounds_toArray, List.set_cons_succ, List.set_cons_zero]) | ((refine rd (by rfl) (ex_addI rfl rfl rfl hw2) ?_); simp only [Act.put, List.setIfInBounds_toArray, List.set_cons_succ, List.set_cons_zero])))
      go_roundg (61 - (i + 1))
      case measure => have := unhide H60; omega
      case rel => exact ⟨i + 1, by go_num, rfl, by have := unhide HLT; omega, by have := unhide H60; omega, by omega, unhide HS2, LL⟩
    · by_cases hll : i < l.length
      · have e61 : i = 61 := by omega
        subst e61
        have d1 : decide ((61 : Int) < (l.length : Int)) = true := decide_eq_true (by omega)
        have d2 : decide ((l.length : Int) ≤ 60) = false := decide_eq_false (by omega)
        clear hlt hil hi6 hgm hsm hll
        go_wp2_with (first | go_skip | ((with_reducible show wpList _ _ _ _ _ _); first | ((refine rd (by rfl) (ex_lenG 22 48 Try.underlying22 rfl rfl) ?_); simp only [Act.put, List.setIfInBounds_toArray, List.set_cons_succ, List.set_cons_zero])))
        go_ret
        exact ⟨false, by simp, by simp, (unhide LL).fr.below⟩
      · obtain rfl : i = l.length := by omega
        clear hlt hil hll
        by_cases h60 : l.length ≤ 60
        · have d2 : decide ((l.length : Int) ≤ 60) = true := decide_eq_true (by omega)
          have hd : decide ((sumT l l.length : Int) ≤ 400) = decide (sumT l l.length ≤ 400) := by by_cases h : sumT l l.length ≤ 400 <;> simp [h] <;> omega
          have HF := hide (few_all h60)
          have H6 := hide h60
          clear h60 hgm hsm hi6
          generalize sumT l l.length = n at *
          go_wp2_with (first | go_skip | ((with_reducible show wpList _ _ _ _ _ _); first | ((refine rd (by rfl) (ex_lenG 22 48 Try.underlying22 rfl rfl) ?_); simp only [Act.put, List.setIfInBounds_toArray, List.set_cons_succ, List.set_cons_zero])))
          go_ret
          exact ⟨decide (n ≤ 400), by simp [hd], fun h => ⟨unhide H6, unhide HF (by simpa using h)⟩, (unhide LL).fr.below⟩
        · have d2 : decide ((l.length : Int) ≤ 60) = false := decide_eq_false (by omega)
          clear h60 hgm hsm hi6
          go_wp2_with (first | go_skip | ((with_reducible show wpList _ _ _ _ _ _); first | ((refine rd (by rfl) (ex_lenG 22 48 Try.underlying22 rfl rfl) ?_); simp only [Act.put, List.setIfInBounds_toArray, List.set_cons_succ, List.set_cons_zero])))
          go_ret
          exact ⟨false, by simp, by simp, (unhide LL).fr.below⟩
theorem num11 (n : Int) (w : World) : Calls Try.prog 9 #[.int .i64 n] w fun e w' => e = .returned (.int .i64 n) ∧ w' = w := by
  go_enter Try.func9, Try.ntmps9
  go_wp2
  go_ret
  exact ⟨rfl, rfl⟩
end Go.Proofs.Ytcflglloopgieaa
