import Derived.Test.YteohiamifoonkaaDoorCh
namespace Go.Proofs.YteohiamifoonkaaDoor
open Go Go.Proofs Go.Maps Go.RowKit FM
set_option linter.unusedSimpArgs false
set_option linter.unusedVariables false
set_option maxHeartbeats 1000000
def allS (l : List OP) : Bool := decide (l.length ≤ 256) && l.all sndV
theorem any_not (l : List OP) : (!l.any fun o => !sndV o) = l.all sndV := by
  induction l with
  | nil => rfl
  | cons o l ih => simp [List.any_cons, List.all_cons, ← ih]
theorem le_len {l : List OP} {b : Bool} (h : decide (l.length ≤ 256) = b) : decide ((l.length : Int) ≤ 256) = b := by
  rw [← h]; exact decide_eq_decide.2 (by omega)
theorem gt_len {l : List OP} {b : Bool} (h : decide (l.length ≤ 256) = b) : decide ((256 : Int) < (l.length : Int)) = !b := by
  rw [← h, ← decide_not]; exact decide_eq_decide.2 (by omega)
set_option maxRecDepth 100000 in
theorem callSound_any (A : Option Addr) (cap : Nat) (l : List OP) (w : World) (hR : ReadsO w A l) (hT : Lib.Utf8Tabs 1 2 w) : Calls Tryd.prog 5 #[.slice A l.length cap] w fun e w' => e = .returned (.bool (allS l)) ∧ Below w.heap.size w w' := by
  have LL := hide (Hq.nil w [])
  have HT := hide hT
  have HR := hide hR
  unfold allS
  cases hl : decide (l.length ≤ 256)
  · have hle := le_len hl
    clear hR hT hl
    go_enter Tryd.func5, Tryd.ntmps5
    go_wp2_with (first | go_skip | ((with_reducible show wpList _ _ _ _ _ _); first | ((refine rd (by rfl) (ex_lenG 22 34 Tryd.underlying22 rfl rfl) ?_); simp only [Act.put, List.setIfInBounds_toArray, List.set_cons_succ, List.set_cons_zero]) | ((refine rd (by rfl) (ex_leI rfl rfl rfl hle) ?_); simp only [Act.put, List.setIfInBounds_toArray, List.set_cons_succ, List.set_cons_zero])))
    go_ret
    exact ⟨rfl, (unhide LL).fr.below⟩
  · have hle := le_len hl
    have HH := hide (hasIxO A cap l (fun o => !sndV o) w hR (by have := of_decide_eq_true hl; omega) (fun j p hp X hX => unsound_any p (hR j p hp).1 X (tabs_below hT hX.below)))
    have HA := hide (any_not l)
    clear hR hT hl
    generalize l.any (fun o => !sndV o) = r at *
    generalize l.all sndV = q at *
    go_enter Tryd.func5, Tryd.ntmps5
    go_wp2_with (first | go_skip | ((with_reducible show wpList _ _ _ _ _ _); first | ((refine rd (by rfl) (ex_lenG 22 34 Tryd.underlying22 rfl rfl) ?_); simp only [Act.put, List.setIfInBounds_toArray, List.set_cons_succ, List.set_cons_zero]) | ((refine rd (by rfl) (ex_leI rfl rfl rfl hle) ?_); simp only [Act.put, List.setIfInBounds_toArray, List.set_cons_succ, List.set_cons_zero])))
    refine (unhide HH).mono ?_
    rintro e0 X2 ⟨rfl, hb2⟩
    replace LL := hide ((unhide LL).on hb2)
    clear hb2
    go_wp2_with (first | go_skip | ((with_reducible show wpList _ _ _ _ _ _); first | ((refine rd (by rfl) (ex_lenG 22 34 Tryd.underlying22 rfl rfl) ?_); simp only [Act.put, List.setIfInBounds_toArray, List.set_cons_succ, List.set_cons_zero]) | ((refine rd (by rfl) (ex_leI rfl rfl rfl hle) ?_); simp only [Act.put, List.setIfInBounds_toArray, List.set_cons_succ, List.set_cons_zero])))
    go_ret
    exact ⟨by rw [← unhide HA]; rfl, (unhide LL).fr.below⟩
def Upto (l : List OP) (i : Nat) : Prop := ∀ (j : Nat) (o : OP), j < i → l[j]? = some o → sndV o = true
theorem Upto.zero (l : List OP) : Upto l 0 := fun j o hj => absurd hj (Nat.not_lt_zero _)
theorem Upto.step {l : List OP} {i : Nat} {o : OP} (h : Upto l i) (hp : l[i]? = some o) (hk : sndV o = true) : Upto l (i + 1) := fun j r hj hq => by
  rcases Nat.lt_succ_iff_lt_or_eq.1 hj with h1 | h1
  · exact h j r h1 hq
  · subst h1
    rw [hp] at hq
    cases hq
    exact hk
theorem Upto.all {l : List OP} (h : Upto l l.length) : l.all sndV = true := by
  rw [List.all_eq_true]
  intro o ho
  obtain ⟨j, hj⟩ := List.getElem?_of_mem ho
  exact h j o (List.getElem?_eq_some_iff.1 hj).1 hj
theorem not_all {l : List OP} {i : Nat} {o : OP} (hp : l[i]? = some o) (h : sndV o = false) : l.all sndV = false := by
  rw [List.all_eq_false]
  exact ⟨o, List.mem_of_getElem? hp, by simp [h]⟩
set_option maxHeartbeats 4000000 in
set_option maxRecDepth 100000 in
theorem refSound_any (A : Option Addr) (cap : Nat) (l : List OP) (w : World) (hR : ReadsO w A l) : Calls Tryd.prog 6 #[.slice A l.length cap] w fun e w' => e = .returned (.bool (allS l)) ∧ Below w.heap.size w w' := by
  have LL := hide (Hq.nil w [])
  have HR := hide hR
  unfold allS
  clear hR
  cases hl : decide (l.length ≤ 256)
  · have hgt := gt_len hl
    simp only [Bool.not_false] at hgt
    clear hl
    go_enter Tryd.func6, Tryd.ntmps6
    go_wp2_with (first | go_skip | ((with_reducible show wpList _ _ _ _ _ _); first | ((refine rd (by rfl) (ex_lenG 22 34 Tryd.underlying22 rfl rfl) ?_); simp only [Act.put, List.setIfInBounds_toArray, List.set_cons_succ, List.set_cons_zero]) | ((refine rd (by rfl) (ex_gtI rfl rfl rfl hgt) ?_); simp only [Act.put, List.setIfInBounds_toArray, List.set_cons_succ, List.set_cons_zero])))
    go_ret
    exact ⟨rfl, (unhide LL).fr.below⟩
  · have hgt := gt_len hl
    simp only [Bool.not_true] at hgt
    have HZ := hide (of_decide_eq_true hl)
    clear hl
    go_enter Tryd.func6, Tryd.ntmps6
    go_wp2_with (first | go_skip | ((with_reducible show wpList _ _ _ _ _ _); first | ((refine rd (by rfl) (ex_lenG 22 34 Tryd.underlying22 rfl rfl) ?_); simp only [Act.put, List.setIfInBounds_toArray, List.set_cons_succ, List.set_cons_zero]) | ((refine rd (by rfl) (ex_gtI rfl rfl rfl hgt) ?_); simp only [Act.put, List.setIfInBounds_toArray, List.set_cons_succ, List.set_cons_zero])))
    go_loopg [3] l.length (fun gm s3 wr => ∃ i : Nat, s3 = .int .i64 (i : Nat) ∧ i ≤ l.length ∧ l.length - i ≤ gm ∧ Hid (Upto l i) ∧ Hid (Hq w wr [] []))
    case atStart => exact ⟨0, rfl, by omega, by omega, hide (Upto.zero l), LL⟩
    case round =>
      clear LL
      obtain ⟨i, rfl, hil, hgm, HD, LL⟩ := hrel
      by_cases hlt : i < l.length
      · have dlt : decide ((i : Int) < (l.length : Int)) = true := decide_eq_true (by omega)
        have hw1 : IntKind.i64.wrap ((i : Int) + 1) = (i : Int) + 1 := by have := unhide HZ; rw [IntKind.wrap_i64]; omega
        obtain ⟨p, hp⟩ : ∃ p, l[i]? = some p := ⟨_, List.getElem?_eq_getElem hlt⟩
        obtain ⟨hok, b, off, hA, hb, hrg⟩ := (unhide HR) i p hp
        subst hA
        have HA2 : Hid (∀ X, Fr w X [] → X.rangeAt b (off + i * 32) p.cs) := hide (fun X hX => rangeAt_fr hrg hb hX)
        have HC := hide (rsnd_any p hok)
        simp only [oagg] at HC
        have HLT := hide hlt
        clear hil hlt hb hrg hok
        go_wp2_with (first | go_skip | ((with_reducible show wpList _ _ _ _ _ _); first | ((refine rd (by rfl) (ex_lenG 22 34 Tryd.underlying22 rfl rfl) ?_); simp only [Act.put, List.setIfInBounds_toArray, List.set_cons_succ, List.set_cons_zero]) | ((refine rd (by rfl) (ex_indexG 22 32 i unOs idOs rfl rfl rfl (unhide HLT)) ?_); simp only [Act.put, List.setIfInBounds_toArray, List.set_cons_succ, List.set_cons_zero]) | ((refine rd (by rfl) (ex_loadR (vs := p.cs) 34 32 rwO szO rfl rfl (unhide HA2 _ (unhide LL).fr) rfl) ?_); simp only [Act.put, List.setIfInBounds_toArray, List.set_cons_succ, List.set_cons_zero])))
        refine (unhide HC _).mono ?_
        rintro e0 X5 ⟨rfl, hb5⟩
        replace LL := hide ((unhide LL).on hb5)
        clear hb5
        cases hq : sndV p
        · have HF := hide (not_all hp hq)
          clear hq hp
          go_wp2_with (first | go_skip | ((with_reducible show wpList _ _ _ _ _ _); first | ((refine rd (by rfl) (ex_lenG 22 34 Tryd.underlying22 rfl rfl) ?_); simp only [Act.put, List.setIfInBounds_toArray, List.set_cons_succ, List.set_cons_zero]) | ((refine rd (by rfl) (ex_indexG 22 32 i unOs idOs rfl rfl rfl (unhide HLT)) ?_); simp only [Act.put, List.setIfInBounds_toArray, List.set_cons_succ, List.set_cons_zero]) | ((refine rd (by rfl) (ex_loadR (vs := p.cs) 34 32 rwO szO rfl rfl (unhide HA2 _ (unhide LL).fr) rfl) ?_); simp only [Act.put, List.setIfInBounds_toArray, List.set_cons_succ, List.set_cons_zero])))
          go_ret
          exact ⟨by rw [unhide HF]; rfl, (unhide LL).fr.below⟩
        · have HD2 := hide ((unhide HD).step hp hq)
          clear hq hp HD
          go_wp2_with (first | go_skip | ((with_reducible show wpList _ _ _ _ _ _); first | ((refine rd (by rfl) (ex_lenG 22 34 Tryd.underlying22 rfl rfl) ?_); simp only [Act.put, List.setIfInBounds_toArray, List.set_cons_succ, List.set_cons_zero]) | ((refine rd (by rfl) (ex_indexG 22 32 i unOs idOs rfl rfl rfl (unhide HLT)) ?_); simp only [Act.put, List.setIfInBounds_toArray, List.set_cons_succ, List.set_cons_zero]) | ((refine rd (by rfl) (ex_loadR (vs := p.cs) 34 32 rwO szO rfl rfl (unhide HA2 _ (unhide LL).fr) rfl) ?_); simp only [Act.put, List.setIfInBounds_toArray, List.set_cons_succ, List.set_cons_zero])))
          go_roundg (l.length - (i + 1))
          case measure => have := unhide HLT; omega
          case rel => exact ⟨i + 1, by go_num, by have := unhide HLT; omega, by omega, HD2, LL⟩
      · obtain rfl : i = l.length := by omega
        have HF := hide (unhide HD).all
        clear hlt hil HD
        go_wp2_with (first | go_skip | ((with_reducible show wpList _ _ _ _ _ _); first | ((refine rd (by rfl) (ex_lenG 22 34 Tryd.underlying22 rfl rfl) ?_); simp only [Act.put, List.setIfInBounds_toArray, List.set_cons_succ, List.set_cons_zero])))
        go_ret
        exact ⟨by rw [unhide HF]; rfl, (unhide LL).fr.below⟩
end Go.Proofs.YteohiamifoonkaaDoor
