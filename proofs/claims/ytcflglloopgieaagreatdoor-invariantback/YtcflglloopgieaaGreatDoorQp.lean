import Derived.Test.YtcflglloopgieaaGreatDoorQo

/-! Ig -/
namespace Go.Proofs.YtcflglloopgieaaGreatDoor
open Go Go.Proofs Go.Maps Go.RowKit FM
set_option linter.unusedSimpArgs false
set_option linter.unusedVariables false
set_option maxHeartbeats 1000000
theorem oI_any {α : Type} (l : List α) (q : α → Bool) : decide (0 ≤ oI (l.findIdx? q)) = l.any q := by
  cases h : l.findIdx? q with
  | none =>
    rw [List.findIdx?_eq_none_iff] at h
    have : l.any q = false := by
      rw [List.any_eq_false]
      intro x hx
      simp [h x hx]
    rw [this]
    simp [oI]
  | some j =>
    obtain ⟨hj, hq, _⟩ := List.findIdx?_eq_some_iff_getElem.1 h
    have : l.any q = true := by
      rw [List.any_eq_true]
      exact ⟨_, List.getElem_mem hj, hq⟩
    rw [this]
    simp [oI]
theorem qx_at {α : Type} {l : List α} {q : α → Bool} {i : Nat} {p : α} (hp : l[i]? = some p) (hq : q p = true) (hlt : ∀ (j : Nat) (r : α), j < i → l[j]? = some r → q r = false) : oI (l.findIdx? q) = (i : Int) := by
  obtain ⟨hi, rfl⟩ := List.getElem?_eq_some_iff.1 hp
  have e : l.findIdx? q = some i := by
    rw [List.findIdx?_eq_some_iff_getElem]
    exact ⟨hi, hq, fun j hj => by rw [hlt j _ hj (List.getElem?_eq_getElem (by omega))]; simp⟩
  rw [e]; rfl
theorem qx_no {α : Type} {l : List α} {q : α → Bool} (hlt : ∀ (j : Nat) (r : α), j < l.length → l[j]? = some r → q r = false) : oI (l.findIdx? q) = -1 := by
  have e : l.findIdx? q = none := by
    rw [List.findIdx?_eq_none_iff]
    intro x hx
    obtain ⟨j, hj⟩ := List.getElem?_of_mem hx
    exact hlt j x (List.getElem?_eq_some_iff.1 hj).1 hj
  rw [e]; rfl
def NoQ {α : Type} (l : List α) (q : α → Bool) (i : Nat) : Prop := ∀ (j : Nat) (r : α), j < i → l[j]? = some r → q r = false
theorem NoQ.zero {α : Type} (l : List α) (q : α → Bool) : NoQ l q 0 := fun j q hj => absurd hj (Nat.not_lt_zero _)
theorem NoQ.step {α : Type} {l : List α} {q : α → Bool} {i : Nat} {p : α} (h : NoQ l q i) (hp : l[i]? = some p) (hk : q p = false) : NoQ l q (i + 1) := fun j r hj hq => by
  rcases Nat.lt_succ_iff_lt_or_eq.1 hj with h1 | h1
  · exact h j r h1 hq
  · subst h1
    rw [hp] at hq
    cases hq
    exact hk
set_option maxRecDepth 100000 in
theorem IxL (B : Option Addr) (cap : Nat) (ps : List PR) (q : PR → Bool) (w : World) (hR : ReadsP w B ps) (hz : ps.length ≤ 733007751850) (HC : ∀ (j : Nat) (p : PR), ps[j]? = some p → ∀ X, Fr w X [] → Calls Tryz.prog 26 #[p.agg] X fun e X' => e = .returned (.bool (q p)) ∧ Below X.heap.size X X') : Calls Tryz.prog 49 #[.slice B ps.length cap, .func (.func 26) #[] #[]] w fun e w' => e = .returned (.int .i64 (oI (ps.findIdx? q))) ∧ Below w.heap.size w w' := by
  have LL := hide (Hq.nil w [])
  have HR := hide hR
  have HZ := hide hz
  have HCC := hide HC
  clear hR hz HC
  go_enter Tryz.func49, Tryz.ntmps49
  go_wp2_with (first | go_skip | ((with_reducible show wpList _ _ _ _ _ _); first | ((refine rd (by rfl) (ex_lenG 32 61 Tryz.underlying32 rfl rfl) ?_); simp only [Act.put, List.setIfInBounds_toArray, List.set_cons_succ, List.set_cons_zero])))
  go_loopg [8] ps.length (fun gm s8 wr => ∃ i : Nat, s8 = .int .i64 (i : Nat) ∧ i ≤ ps.length ∧ ps.length - i ≤ gm ∧ Hid (NoQ ps q i) ∧ Hid (Hq w wr [] []))
  case atStart => exact ⟨0, rfl, by omega, by omega, hide (NoQ.zero ps q), LL⟩
  case round =>
    clear LL
    obtain ⟨i, rfl, hil, hgm, HD, LL⟩ := hrel
    by_cases hlt : i < ps.length
    · have dlt : decide ((i : Int) < (ps.length : Int)) = true := decide_eq_true (by omega)
      have hw1 : IntKind.i64.wrap ((i : Int) + 1) = (i : Int) + 1 := by have := unhide HZ; rw [IntKind.wrap_i64]; omega
      obtain ⟨p, hp⟩ : ∃ p, ps[i]? = some p := ⟨_, List.getElem?_eq_getElem hlt⟩
      obtain ⟨_, b, off, hA, hb, hrg⟩ := (unhide HR) i p hp
      subst hA
      have HA2 : Hid (∀ X, Fr w X [] → X.rangeAt b (off + i * 20) p.cs) := hide (fun X hX => rangeAt_fr hrg hb hX)
      have HC := hide ((unhide HCC) i p hp)
      simp only [pagg] at HC
      have HLT := hide hlt
      clear hil hlt hb hrg
      go_wp2_with (first | go_skip | ((with_reducible show wpList _ _ _ _ _ _); first | ((refine rd (by rfl) (ex_lenG 32 61 Tryz.underlying32 rfl rfl) ?_); simp only [Act.put, List.setIfInBounds_toArray, List.set_cons_succ, List.set_cons_zero]) | ((refine rd (by rfl) (ex_indexG 32 20 i unPs idPs rfl rfl rfl (unhide HLT)) ?_); simp only [Act.put, List.setIfInBounds_toArray, List.set_cons_succ, List.set_cons_zero]) | ((refine rd (by rfl) (ex_loadR (vs := p.cs) 61 20 rwP szP rfl rfl (unhide HA2 _ (unhide LL).fr) rfl) ?_); simp only [Act.put, List.setIfInBounds_toArray, List.set_cons_succ, List.set_cons_zero])))
      refine (unhide HC _ (unhide LL).fr).mono ?_
      rintro e X5 ⟨rfl, hb5⟩
      replace LL := hide ((unhide LL).on hb5)
      clear hb5
      cases hqp : q p
      · have HD2 := hide ((unhide HD).step hp hqp)
        clear hqp hp HD
        go_wp2_with (first | go_skip | ((with_reducible show wpList _ _ _ _ _ _); first | ((refine rd (by rfl) (ex_lenG 32 61 Tryz.underlying32 rfl rfl) ?_); simp only [Act.put, List.setIfInBounds_toArray, List.set_cons_succ, List.set_cons_zero]) | ((refine rd (by rfl) (ex_indexG 32 20 i unPs idPs rfl rfl rfl (unhide HLT)) ?_); simp only [Act.put, List.setIfInBounds_toArray, List.set_cons_succ, List.set_cons_zero]) | ((refine rd (by rfl) (ex_loadR (vs := p.cs) 61 20 rwP szP rfl rfl (unhide HA2 _ (unhide LL).fr) rfl) ?_); simp only [Act.put, List.setIfInBounds_toArray, List.set_cons_succ, List.set_cons_zero])))
        go_roundg (ps.length - (i + 1))
        case measure => have := unhide HLT; omega
        case rel => exact ⟨i + 1, by go_num, by have := unhide HLT; omega, by omega, HD2, LL⟩
      · have HF := hide (qx_at hp hqp (unhide HD))
        clear hqp hp HD
        go_wp2_with (first | go_skip | ((with_reducible show wpList _ _ _ _ _ _); first | ((refine rd (by rfl) (ex_lenG 32 61 Tryz.underlying32 rfl rfl) ?_); simp only [Act.put, List.setIfInBounds_toArray, List.set_cons_succ, List.set_cons_zero]) | ((refine rd (by rfl) (ex_indexG 32 20 i unPs idPs rfl rfl rfl (unhide HLT)) ?_); simp only [Act.put, List.setIfInBounds_toArray, List.set_cons_succ, List.set_cons_zero]) | ((refine rd (by rfl) (ex_loadR (vs := p.cs) 61 20 rwP szP rfl rfl (unhide HA2 _ (unhide LL).fr) rfl) ?_); simp only [Act.put, List.setIfInBounds_toArray, List.set_cons_succ, List.set_cons_zero])))
        go_ret
        exact ⟨by rw [unhide HF]; rfl, (unhide LL).fr.below⟩
    · obtain rfl : i = ps.length := by omega
      have HF := hide (qx_no (unhide HD))
      clear hlt hil HD
      go_wp2_with (first | go_skip | ((with_reducible show wpList _ _ _ _ _ _); first | ((refine rd (by rfl) (ex_lenG 32 61 Tryz.underlying32 rfl rfl) ?_); simp only [Act.put, List.setIfInBounds_toArray, List.set_cons_succ, List.set_cons_zero])))
      go_ret
      exact ⟨by rw [unhide HF]; rfl, (unhide LL).fr.below⟩
set_option maxRecDepth 100000 in
theorem hasIxL (B : Option Addr) (cap : Nat) (ps : List PR) (q : PR → Bool) (w : World) (hR : ReadsP w B ps) (hz : ps.length ≤ 733007751850) (HC : ∀ (j : Nat) (p : PR), ps[j]? = some p → ∀ X, Fr w X [] → Calls Tryz.prog 26 #[p.agg] X fun e X' => e = .returned (.bool (q p)) ∧ Below X.heap.size X X') : Calls Tryz.prog 25 #[.slice B ps.length cap, .func (.func 26) #[] #[]] w fun e w' => e = .returned (.bool (ps.any q)) ∧ Below w.heap.size w w' := by
  have HI := hide (IxL B cap ps q w hR hz HC)
  have hq := oI_any ps q
  clear HC hR hz
  generalize oI (ps.findIdx? q) = r at *
  generalize ps.any q = t at *
  go_enter Tryz.func25, Tryz.ntmps25
  go_wp2_with fail
  refine (unhide HI).mono ?_
  rintro e X5 ⟨rfl, hb5⟩
  have HB := hide hb5
  clear hb5
  go_wp2
  go_ret
  exact ⟨by simp [← hq], unhide HB⟩
set_option maxRecDepth 100000 in
theorem IxC (B : Option Addr) (cap : Nat) (ps : List PR) (q : PR → Bool) (w : World) (hR : ReadsP w B ps) (hz : ps.length ≤ 733007751850) (HC : ∀ (j : Nat) (p : PR), ps[j]? = some p → ∀ X, Fr w X [] → Calls Tryz.prog 27 #[p.agg] X fun e X' => e = .returned (.bool (q p)) ∧ Below X.heap.size X X') : Calls Tryz.prog 49 #[.slice B ps.length cap, .func (.func 27) #[] #[]] w fun e w' => e = .returned (.int .i64 (oI (ps.findIdx? q))) ∧ Below w.heap.size w w' := by
  have LL := hide (Hq.nil w [])
  have HR := hide hR
  have HZ := hide hz
  have HCC := hide HC
  clear hR hz HC
  go_enter Tryz.func49, Tryz.ntmps49
  go_wp2_with (first | go_skip | ((with_reducible show wpList _ _ _ _ _ _); first | ((refine rd (by rfl) (ex_lenG 32 61 Tryz.underlying32 rfl rfl) ?_); simp only [Act.put, List.setIfInBounds_toArray, List.set_cons_succ, List.set_cons_zero])))
  go_loopg [8] ps.length (fun gm s8 wr => ∃ i : Nat, s8 = .int .i64 (i : Nat) ∧ i ≤ ps.length ∧ ps.length - i ≤ gm ∧ Hid (NoQ ps q i) ∧ Hid (Hq w wr [] []))
  case atStart => exact ⟨0, rfl, by omega, by omega, hide (NoQ.zero ps q), LL⟩
  case round =>
    clear LL
    obtain ⟨i, rfl, hil, hgm, HD, LL⟩ := hrel
    by_cases hlt : i < ps.length
    · have dlt : decide ((i : Int) < (ps.length : Int)) = true := decide_eq_true (by omega)
      have hw1 : IntKind.i64.wrap ((i : Int) + 1) = (i : Int) + 1 := by have := unhide HZ; rw [IntKind.wrap_i64]; omega
      obtain ⟨p, hp⟩ : ∃ p, ps[i]? = some p := ⟨_, List.getElem?_eq_getElem hlt⟩
      obtain ⟨_, b, off, hA, hb, hrg⟩ := (unhide HR) i p hp
      subst hA
      have HA2 : Hid (∀ X, Fr w X [] → X.rangeAt b (off + i * 20) p.cs) := hide (fun X hX => rangeAt_fr hrg hb hX)
      have HC := hide ((unhide HCC) i p hp)
      simp only [pagg] at HC
      have HLT := hide hlt
      clear hil hlt hb hrg
      go_wp2_with (first | go_skip | ((with_reducible show wpList _ _ _ _ _ _); first | ((refine rd (by rfl) (ex_lenG 32 61 Tryz.underlying32 rfl rfl) ?_); simp only [Act.put, List.setIfInBounds_toArray, List.set_cons_succ, List.set_cons_zero]) | ((refine rd (by rfl) (ex_indexG 32 20 i unPs idPs rfl rfl rfl (unhide HLT)) ?_); simp only [Act.put, List.setIfInBounds_toArray, List.set_cons_succ, List.set_cons_zero]) | ((refine rd (by rfl) (ex_loadR (vs := p.cs) 61 20 rwP szP rfl rfl (unhide HA2 _ (unhide LL).fr) rfl) ?_); simp only [Act.put, List.setIfInBounds_toArray, List.set_cons_succ, List.set_cons_zero])))
      refine (unhide HC _ (unhide LL).fr).mono ?_
      rintro e X5 ⟨rfl, hb5⟩
      replace LL := hide ((unhide LL).on hb5)
      clear hb5
      cases hqp : q p
      · have HD2 := hide ((unhide HD).step hp hqp)
        clear hqp hp HD
        go_wp2_with (first | go_skip | ((with_reducible show wpList _ _ _ _ _ _); first | ((refine rd (by rfl) (ex_lenG 32 61 Tryz.underlying32 rfl rfl) ?_); simp only [Act.put, List.setIfInBounds_toArray, List.set_cons_succ, List.set_cons_zero]) | ((refine rd (by rfl) (ex_indexG 32 20 i unPs idPs rfl rfl rfl (unhide HLT)) ?_); simp only [Act.put, List.setIfInBounds_toArray, List.set_cons_succ, List.set_cons_zero]) | ((refine rd (by rfl) (ex_loadR (vs := p.cs) 61 20 rwP szP rfl rfl (unhide HA2 _ (unhide LL).fr) rfl) ?_); simp only [Act.put, List.setIfInBounds_toArray, List.set_cons_succ, List.set_cons_zero])))
        go_roundg (ps.length - (i + 1))
        case measure => have := unhide HLT; omega
        case rel => exact ⟨i + 1, by go_num, by have := unhide HLT; omega, by omega, HD2, LL⟩
      · have HF := hide (qx_at hp hqp (unhide HD))
        clear hqp hp HD
        go_wp2_with (first | go_skip | ((with_reducible show wpList _ _ _ _ _ _); first | ((refine rd (by rfl) (ex_lenG 32 61 Tryz.underlying32 rfl rfl) ?_); simp only [Act.put, List.setIfInBounds_toArray, List.set_cons_succ, List.set_cons_zero]) | ((refine rd (by rfl) (ex_indexG 32 20 i unPs idPs rfl rfl rfl (unhide HLT)) ?_); simp only [Act.put, List.setIfInBounds_toArray, List.set_cons_succ, List.set_cons_zero]) | ((refine rd (by rfl) (ex_loadR (vs := p.cs) 61 20 rwP szP rfl rfl (unhide HA2 _ (unhide LL).fr) rfl) ?_); simp only [Act.put, List.setIfInBounds_toArray, List.set_cons_succ, List.set_cons_zero])))
        go_ret
        exact ⟨by rw [unhide HF]; rfl, (unhide LL).fr.below⟩
    · obtain rfl : i = ps.length := by omega
      have HF := hide (qx_no (unhide HD))
      clear hlt hil HD
      go_wp2_with (first | go_skip | ((with_reducible show wpList _ _ _ _ _ _); first | ((refine rd (by rfl) (ex_lenG 32 61 Tryz.underlying32 rfl rfl) ?_); simp only [Act.put, List.setIfInBounds_toArray, List.set_cons_succ, List.set_cons_zero])))
      go_ret
      exact ⟨by rw [unhide HF]; rfl, (unhide LL).fr.below⟩
set_option maxRecDepth 100000 in
theorem hasIxC (B : Option Addr) (cap : Nat) (ps : List PR) (q : PR → Bool) (w : World) (hR : ReadsP w B ps) (hz : ps.length ≤ 733007751850) (HC : ∀ (j : Nat) (p : PR), ps[j]? = some p → ∀ X, Fr w X [] → Calls Tryz.prog 27 #[p.agg] X fun e X' => e = .returned (.bool (q p)) ∧ Below X.heap.size X X') : Calls Tryz.prog 25 #[.slice B ps.length cap, .func (.func 27) #[] #[]] w fun e w' => e = .returned (.bool (ps.any q)) ∧ Below w.heap.size w w' := by
  have HI := hide (IxC B cap ps q w hR hz HC)
  have hq := oI_any ps q
  clear HC hR hz
  generalize oI (ps.findIdx? q) = r at *
  generalize ps.any q = t at *
  go_enter Tryz.func25, Tryz.ntmps25
  go_wp2_with fail
  refine (unhide HI).mono ?_
  rintro e X5 ⟨rfl, hb5⟩
  have HB := hide hb5
  clear hb5
  go_wp2
  go_ret
  exact ⟨by simp [← hq], unhide HB⟩
set_option maxRecDepth 100000 in
theorem IxM (B : Option Addr) (cap : Nat) (ps : List PR) (cv : Value) (q : PR → Bool) (w : World) (hR : ReadsP w B ps) (hz : ps.length ≤ 733007751850) (HC : ∀ (j : Nat) (p : PR), ps[j]? = some p → ∀ X, Fr w X [] → Calls Tryz.prog 58 #[p.agg, cv] X fun e X' => e = .returned (.bool (q p)) ∧ Below X.heap.size X X') : Calls Tryz.prog 49 #[.slice B ps.length cap, .func (.func 58) #[] #[cv]] w fun e w' => e = .returned (.int .i64 (oI (ps.findIdx? q))) ∧ Below w.heap.size w w' := by
  have LL := hide (Hq.nil w [])
  have HR := hide hR
  have HZ := hide hz
  have HCC := hide HC
  clear hR hz HC
  go_enter Tryz.func49, Tryz.ntmps49
  go_wp2_with (first | go_skip | ((with_reducible show wpList _ _ _ _ _ _); first | ((refine rd (by rfl) (ex_lenG 32 61 Tryz.underlying32 rfl rfl) ?_); simp only [Act.put, List.setIfInBounds_toArray, List.set_cons_succ, List.set_cons_zero])))
  go_loopg [8] ps.length (fun gm s8 wr => ∃ i : Nat, s8 = .int .i64 (i : Nat) ∧ i ≤ ps.length ∧ ps.length - i ≤ gm ∧ Hid (NoQ ps q i) ∧ Hid (Hq w wr [] []))
  case atStart => exact ⟨0, rfl, by omega, by omega, hide (NoQ.zero ps q), LL⟩
  case round =>
    clear LL
    obtain ⟨i, rfl, hil, hgm, HD, LL⟩ := hrel
    by_cases hlt : i < ps.length
    · have dlt : decide ((i : Int) < (ps.length : Int)) = true := decide_eq_true (by omega)
      have hw1 : IntKind.i64.wrap ((i : Int) + 1) = (i : Int) + 1 := by have := unhide HZ; rw [IntKind.wrap_i64]; omega
      obtain ⟨p, hp⟩ : ∃ p, ps[i]? = some p := ⟨_, List.getElem?_eq_getElem hlt⟩
      obtain ⟨_, b, off, hA, hb, hrg⟩ := (unhide HR) i p hp
      subst hA
      have HA2 : Hid (∀ X, Fr w X [] → X.rangeAt b (off + i * 20) p.cs) := hide (fun X hX => rangeAt_fr hrg hb hX)
      have HC := hide ((unhide HCC) i p hp)
      simp only [pagg] at HC
      have HLT := hide hlt
      clear hil hlt hb hrg
      go_wp2_with (first | go_skip | ((with_reducible show wpList _ _ _ _ _ _); first | ((refine rd (by rfl) (ex_lenG 32 61 Tryz.underlying32 rfl rfl) ?_); simp only [Act.put, List.setIfInBounds_toArray, List.set_cons_succ, List.set_cons_zero]) | ((refine rd (by rfl) (ex_indexG 32 20 i unPs idPs rfl rfl rfl (unhide HLT)) ?_); simp only [Act.put, List.setIfInBounds_toArray, List.set_cons_succ, List.set_cons_zero]) | ((refine rd (by rfl) (ex_loadR (vs := p.cs) 61 20 rwP szP rfl rfl (unhide HA2 _ (unhide LL).fr) rfl) ?_); simp only [Act.put, List.setIfInBounds_toArray, List.set_cons_succ, List.set_cons_zero])))
      refine (unhide HC _ (unhide LL).fr).mono ?_
      rintro e X5 ⟨rfl, hb5⟩
      replace LL := hide ((unhide LL).on hb5)
      clear hb5
      cases hqp : q p
      · have HD2 := hide ((unhide HD).step hp hqp)
        clear hqp hp HD
        go_wp2_with (first | go_skip | ((with_reducible show wpList _ _ _ _ _ _); first | ((refine rd (by rfl) (ex_lenG 32 61 Tryz.underlying32 rfl rfl) ?_); simp only [Act.put, List.setIfInBounds_toArray, List.set_cons_succ, List.set_cons_zero]) | ((refine rd (by rfl) (ex_indexG 32 20 i unPs idPs rfl rfl rfl (unhide HLT)) ?_); simp only [Act.put, List.setIfInBounds_toArray, List.set_cons_succ, List.set_cons_zero]) | ((refine rd (by rfl) (ex_loadR (vs := p.cs) 61 20 rwP szP rfl rfl (unhide HA2 _ (unhide LL).fr) rfl) ?_); simp only [Act.put, List.setIfInBounds_toArray, List.set_cons_succ, List.set_cons_zero])))
        go_roundg (ps.length - (i + 1))
        case measure => have := unhide HLT; omega
        case rel => exact ⟨i + 1, by go_num, by have := unhide HLT; omega, by omega, HD2, LL⟩
      · have HF := hide (qx_at hp hqp (unhide HD))
        clear hqp hp HD
        go_wp2_with (first | go_skip | ((with_reducible show wpList _ _ _ _ _ _); first | ((refine rd (by rfl) (ex_lenG 32 61 Tryz.underlying32 rfl rfl) ?_); simp only [Act.put, List.setIfInBounds_toArray, List.set_cons_succ, List.set_cons_zero]) | ((refine rd (by rfl) (ex_indexG 32 20 i unPs idPs rfl rfl rfl (unhide HLT)) ?_); simp only [Act.put, List.setIfInBounds_toArray, List.set_cons_succ, List.set_cons_zero]) | ((refine rd (by rfl) (ex_loadR (vs := p.cs) 61 20 rwP szP rfl rfl (unhide HA2 _ (unhide LL).fr) rfl) ?_); simp only [Act.put, List.setIfInBounds_toArray, List.set_cons_succ, List.set_cons_zero])))
        go_ret
        exact ⟨by rw [unhide HF]; rfl, (unhide LL).fr.below⟩
    · obtain rfl : i = ps.length := by omega
      have HF := hide (qx_no (unhide HD))
      clear hlt hil HD
      go_wp2_with (first | go_skip | ((with_reducible show wpList _ _ _ _ _ _); first | ((refine rd (by rfl) (ex_lenG 32 61 Tryz.underlying32 rfl rfl) ?_); simp only [Act.put, List.setIfInBounds_toArray, List.set_cons_succ, List.set_cons_zero])))
      go_ret
      exact ⟨by rw [unhide HF]; rfl, (unhide LL).fr.below⟩
set_option maxRecDepth 100000 in
theorem hasIxM (B : Option Addr) (cap : Nat) (ps : List PR) (cv : Value) (q : PR → Bool) (w : World) (hR : ReadsP w B ps) (hz : ps.length ≤ 733007751850) (HC : ∀ (j : Nat) (p : PR), ps[j]? = some p → ∀ X, Fr w X [] → Calls Tryz.prog 58 #[p.agg, cv] X fun e X' => e = .returned (.bool (q p)) ∧ Below X.heap.size X X') : Calls Tryz.prog 25 #[.slice B ps.length cap, .func (.func 58) #[] #[cv]] w fun e w' => e = .returned (.bool (ps.any q)) ∧ Below w.heap.size w w' := by
  have HI := hide (IxM B cap ps cv q w hR hz HC)
  have hq := oI_any ps q
  clear HC hR hz
  generalize oI (ps.findIdx? q) = r at *
  generalize ps.any q = t at *
  go_enter Tryz.func25, Tryz.ntmps25
  go_wp2_with fail
  refine (unhide HI).mono ?_
  rintro e X5 ⟨rfl, hb5⟩
  have HB := hide hb5
  clear hb5
  go_wp2
  go_ret
  exact ⟨by simp [← hq], unhide HB⟩
set_option maxRecDepth 100000 in
theorem IxD (B : Option Addr) (cap : Nat) (ps : List SH) (q : SH → Bool) (w : World) (hR : ReadsS w B ps) (hz : ps.length ≤ 733007751850) (HC : ∀ (j : Nat) (p : SH) (SA : Option Addr) (sc : Nat), ps[j]? = some p → ReadsP w SA p.ps → ∀ X, Fr w X [] → Calls Tryz.prog 30 #[p.agg SA sc] X fun e X' => e = .returned (.bool (q p)) ∧ Below X.heap.size X X') : Calls Tryz.prog 50 #[.slice B ps.length cap, .func (.func 30) #[] #[]] w fun e w' => e = .returned (.int .i64 (oI (ps.findIdx? q))) ∧ Below w.heap.size w w' := by
  have LL := hide (Hq.nil w [])
  have HR := hide hR
  have HZ := hide hz
  have HCC := hide HC
  clear hR hz HC
  go_enter Tryz.func50, Tryz.ntmps50
  go_wp2_with (first | go_skip | ((with_reducible show wpList _ _ _ _ _ _); first | ((refine rd (by rfl) (ex_lenG 22 34 Tryz.underlying22 rfl rfl) ?_); simp only [Act.put, List.setIfInBounds_toArray, List.set_cons_succ, List.set_cons_zero])))
  go_loopg [8] ps.length (fun gm s8 wr => ∃ i : Nat, s8 = .int .i64 (i : Nat) ∧ i ≤ ps.length ∧ ps.length - i ≤ gm ∧ Hid (NoQ ps q i) ∧ Hid (Hq w wr [] []))
  case atStart => exact ⟨0, rfl, by omega, by omega, hide (NoQ.zero ps q), LL⟩
  case round =>
    clear LL
    obtain ⟨i, rfl, hil, hgm, HD, LL⟩ := hrel
    by_cases hlt : i < ps.length
    · have dlt : decide ((i : Int) < (ps.length : Int)) = true := decide_eq_true (by omega)
      have hw1 : IntKind.i64.wrap ((i : Int) + 1) = (i : Int) + 1 := by have := unhide HZ; rw [IntKind.wrap_i64]; omega
      obtain ⟨p, hp⟩ : ∃ p, ps[i]? = some p := ⟨_, List.getElem?_eq_getElem hlt⟩
      obtain ⟨_, _, b, off, SA, sc, hA, hb, hrp, hrg⟩ := (unhide HR) i p hp
      subst hA
      have HA2 : Hid (∀ X, Fr w X [] → X.rangeAt b (off + i * 8) (p.cs SA sc)) := hide (fun X hX => rangeAt_fr hrg hb hX)
      have HC := hide ((unhide HCC) i p SA sc hp hrp)
      simp only [sagg] at HC
      have HLT := hide hlt
      clear hil hlt hb hrg
      go_wp2_with (first | go_skip | ((with_reducible show wpList _ _ _ _ _ _); first | ((refine rd (by rfl) (ex_lenG 22 34 Tryz.underlying22 rfl rfl) ?_); simp only [Act.put, List.setIfInBounds_toArray, List.set_cons_succ, List.set_cons_zero]) | ((refine rd (by rfl) (ex_indexG 22 8 i unSs idSs rfl rfl rfl (unhide HLT)) ?_); simp only [Act.put, List.setIfInBounds_toArray, List.set_cons_succ, List.set_cons_zero]) | ((refine rd (by rfl) (ex_loadR (vs := p.cs SA sc) 34 8 rwS szS rfl rfl (unhide HA2 _ (unhide LL).fr) rfl) ?_); simp only [Act.put, List.setIfInBounds_toArray, List.set_cons_succ, List.set_cons_zero])))
      refine (unhide HC _ (unhide LL).fr).mono ?_
      rintro e X5 ⟨rfl, hb5⟩
      replace LL := hide ((unhide LL).on hb5)
      clear hb5
      cases hqp : q p
      · have HD2 := hide ((unhide HD).step hp hqp)
        clear hqp hp HD
        go_wp2_with (first | go_skip | ((with_reducible show wpList _ _ _ _ _ _); first | ((refine rd (by rfl) (ex_lenG 22 34 Tryz.underlying22 rfl rfl) ?_); simp only [Act.put, List.setIfInBounds_toArray, List.set_cons_succ, List.set_cons_zero]) | ((refine rd (by rfl) (ex_indexG 22 8 i unSs idSs rfl rfl rfl (unhide HLT)) ?_); simp only [Act.put, List.setIfInBounds_toArray, List.set_cons_succ, List.set_cons_zero]) | ((refine rd (by rfl) (ex_loadR (vs := p.cs SA sc) 34 8 rwS szS rfl rfl (unhide HA2 _ (unhide LL).fr) rfl) ?_); simp only [Act.put, List.setIfInBounds_toArray, List.set_cons_succ, List.set_cons_zero])))
        go_roundg (ps.length - (i + 1))
        case measure => have := unhide HLT; omega
        case rel => exact ⟨i + 1, by go_num, by have := unhide HLT; omega, by omega, HD2, LL⟩
      · have HF := hide (qx_at hp hqp (unhide HD))
        clear hqp hp HD
        go_wp2_with (first | go_skip | ((with_reducible show wpList _ _ _ _ _ _); first | ((refine rd (by rfl) (ex_lenG 22 34 Tryz.underlying22 rfl rfl) ?_); simp only [Act.put, List.setIfInBounds_toArray, List.set_cons_succ, List.set_cons_zero]) | ((refine rd (by rfl) (ex_indexG 22 8 i unSs idSs rfl rfl rfl (unhide HLT)) ?_); simp only [Act.put, List.setIfInBounds_toArray, List.set_cons_succ, List.set_cons_zero]) | ((refine rd (by rfl) (ex_loadR (vs := p.cs SA sc) 34 8 rwS szS rfl rfl (unhide HA2 _ (unhide LL).fr) rfl) ?_); simp only [Act.put, List.setIfInBounds_toArray, List.set_cons_succ, List.set_cons_zero])))
        go_ret
        exact ⟨by rw [unhide HF]; rfl, (unhide LL).fr.below⟩
    · obtain rfl : i = ps.length := by omega
      have HF := hide (qx_no (unhide HD))
      clear hlt hil HD
      go_wp2_with (first | go_skip | ((with_reducible show wpList _ _ _ _ _ _); first | ((refine rd (by rfl) (ex_lenG 22 34 Tryz.underlying22 rfl rfl) ?_); simp only [Act.put, List.setIfInBounds_toArray, List.set_cons_succ, List.set_cons_zero])))
      go_ret
      exact ⟨by rw [unhide HF]; rfl, (unhide LL).fr.below⟩
set_option maxRecDepth 100000 in
theorem hasIxD (B : Option Addr) (cap : Nat) (ps : List SH) (q : SH → Bool) (w : World) (hR : ReadsS w B ps) (hz : ps.length ≤ 733007751850) (HC : ∀ (j : Nat) (p : SH) (SA : Option Addr) (sc : Nat), ps[j]? = some p → ReadsP w SA p.ps → ∀ X, Fr w X [] → Calls Tryz.prog 30 #[p.agg SA sc] X fun e X' => e = .returned (.bool (q p)) ∧ Below X.heap.size X X') : Calls Tryz.prog 29 #[.slice B ps.length cap, .func (.func 30) #[] #[]] w fun e w' => e = .returned (.bool (ps.any q)) ∧ Below w.heap.size w w' := by
  have HI := hide (IxD B cap ps q w hR hz HC)
  have hq := oI_any ps q
  clear HC hR hz
  generalize oI (ps.findIdx? q) = r at *
  generalize ps.any q = t at *
  go_enter Tryz.func29, Tryz.ntmps29
  go_wp2_with fail
  refine (unhide HI).mono ?_
  rintro e X5 ⟨rfl, hb5⟩
  have HB := hide hb5
  clear hb5
  go_wp2
  go_ret
  exact ⟨by simp [← hq], unhide HB⟩
end Go.Proofs.YtcflglloopgieaaGreatDoor

/-! Ih -/
namespace Go.Proofs.YtcflglloopgieaaGreatDoor
open Go Go.Proofs Go.Maps Go.RowKit FM
set_option linter.unusedSimpArgs false
set_option linter.unusedVariables false
set_option maxHeartbeats 1000000
theorem alV {ops : Array Oper} {rest : List Oper} {Q : Exit → Act → World → Prop} {w w0 : World} {a : Act} {o : Oper} {E : List Nat} {L : List (Nat × List Value)} {v : Value} (t : TypeId) (cs : List Value) (hw : Region.wanted o (yielded ops a.tmps) = true) (ho : o.op = .alloc t) (hz : ∀ w, (zeroValue t).run Tryz.prog w = .ok v w) (hv : v.cells = cs.toArray) (hc : 0 < cs.length) (hL : Hq w0 w E L)
    (h : ∀ X B, B = w.heap.size → Hq w0 X E (L ++ [(B, cs)]) → Below w.heap.size w X → wpList Tryz.prog ops Q rest (a.put o.dst (.pointer (some ⟨B, 0, none⟩))) X) : wpList Tryz.prog ops Q (o :: rest) a w := by
  refine BigFrame.wpList_want hw fun K hK => ?_
  have hP := hK _ _ (h _ _ rfl (hL.new cs t hc) ((Below.refl _ _).alloc (Nat.le_refl _) _))
  unfold Oper.wp execOp
  simp only [ho]
  unfold Value.cells at hv
  simp [go_sem, hz, hv]
  exact hP
theorem MapI.fr {w X : World} {b n sz : Nat} {F : KK → Option Nat} (h : MapI w b n sz F) (hf : Fr w X []) : MapI X b n sz F := h.block (hf.block b h.lt (by simp))
theorem Holds.fr {w X : World} {b : Nat} {cs : List Value} (h : Holds w b cs) (hl : 0 < cs.length) (hf : Fr w X []) : Holds X b cs := h.block (hf.block b (h.lt hl) (by simp))
set_option maxRecDepth 100000 in
theorem moreKeys1_any (p : PR) (BM M n sz : Nat) (G : KK → Option Nat) (w : World) (hk : OkK p.k) (hB : Holds w BM [.map (some M)]) (hM : MapI w M n sz G) : Calls Tryz.prog 58 #[p.agg, .pointer (some ⟨BM, 0, none⟩)] w fun e w' => e = .returned (.bool (!(G p.k).isSome)) ∧ Below w.heap.size w w' := by
  have LL := hide (Hq.nil w [])
  have HB := hide (fun X hX => hB.fr (X := X) (Nat.succ_pos _) hX)
  have HM := hide (fun X hX => hM.fr (X := X) hX)
  have HOK := hide hk
  clear hB hM hk
  rw [pagg]
  go_enter Tryz.func58, Tryz.ntmps58
  go_wp2_with (first | go_skip | ((with_reducible show wpList _ _ _ _ _ _); first | ((refine bx 61 (p.cs) (by rfl) rfl rfl rfl (Nat.succ_pos _) (unhide LL) ?_); intro X1 B1 hE1 L1 hb1; have hB1 := hide (Nat.le_trans (unhide LL).fr.size (Nat.le_of_eq hE1.symm)); replace LL := hide L1; clear L1 hb1 hE1; simp only [Act.put, List.setIfInBounds_toArray, List.set_cons_succ, List.set_cons_zero]) | ((refine rd (by rfl) (ex_load1 85 Tryz.isAgg85 rfl rfl (unhide HB _ (unhide LL).fr) rfl) ?_); simp only [Act.put, List.setIfInBounds_toArray, List.set_cons_succ, List.set_cons_zero]) | ((refine rd (by rfl) (ex_loadN (vs := p.k.cs) 56 2 rwK szK rfl rfl ((unhide LL).get 0 rfl) rfl rfl) ?_); simp only [Act.put, List.setIfInBounds_toArray, List.set_cons_succ, List.set_cons_zero]) | ((refine rd (by rfl) (ex_lookI rfl rfl rfl (unhide HM _ (unhide LL).fr) (unhide HOK) rfl) ?_); simp only [Act.put, List.setIfInBounds_toArray, List.set_cons_succ, List.set_cons_zero])))
  go_ret
  exact ⟨by simp, (unhide LL).fr.below⟩
def mkV (c : CO) : Bool := !c.was.x && c.is.ps.any (fun p => !(fO c.was.ps p.k).isSome)
set_option maxRecDepth 100000 in
theorem moreKeys_any (c : CO) (w : World) (hW : ReadsP w c.wA c.was.ps) (hI : ReadsP w c.iA c.is.ps) (hz : c.was.ps.length ≤ 733007751850) (hz2 : c.is.ps.length ≤ 733007751850) : Calls Tryz.prog 40 #[c.agg] w fun e w' => e = .returned (.bool (mkV c)) ∧ Below w.heap.size w w' := by
  have LL := hide (Hq.nil w [])
  have HPL := hide (fun w hR => places_any c.wA c.wc c.was.ps w hR hz)
  have HW := hide hW
  have HI := hide hI
  have HZ2 := hide hz2
  clear hW hI hz hz2
  have H6 := hide (co_at6 c)
  have H7 : Hid (c.cs[7]? = some (.slice c.wA c.was.ps.length c.wc)) := hide rfl
  have H15 : Hid (c.cs[15]? = some (.slice c.iA c.is.ps.length c.ic)) := hide rfl
  unfold mkV
  rw [coagg]
  have hl : 0 < c.cs.length := Nat.succ_pos _
  generalize c.cs = cc at *
  generalize c.was.x = x at *
  have HL := hide hl
  clear hl
  cases x
  · go_enter Tryz.func40, Tryz.ntmps40
    go_wp2_with (first | go_skip | ((with_reducible show wpList _ _ _ _ _ _); first | ((refine bx 46 cc (by rfl) rfl rfl rfl (unhide HL) (unhide LL) ?_); intro X1 B1 hE1 L1 hb1; replace LL := hide L1; clear L1 hb1 hE1; simp only [Act.put, List.setIfInBounds_toArray, List.set_cons_succ, List.set_cons_zero]) | ((refine rd (by rfl) (ex_load1 4 Tryz.isAgg4 rfl rfl ((unhide LL).get 0 rfl) (unhide H6)) ?_); simp only [Act.put, List.setIfInBounds_toArray, List.set_cons_succ, List.set_cons_zero]) | ((refine rd (by rfl) (ex_load1 32 Tryz.isAgg32 rfl rfl ((unhide LL).get 0 rfl) (unhide H7)) ?_); simp only [Act.put, List.setIfInBounds_toArray, List.set_cons_succ, List.set_cons_zero])))
    refine (unhide HPL _ ((unhide HW).fr (unhide LL).fr)).mono ?_
    rintro e X4 ⟨M, n, rfl, hM0, hm, hb4⟩
    have HM := hide hm
    have hM1 := hide (Nat.le_trans (unhide LL).fr.size hM0)
    replace LL := hide ((unhide LL).on hb4)
    clear hm hM0 hb4
    go_wp2_with (first | go_skip | ((with_reducible show wpList _ _ _ _ _ _); first | ((refine rd (by rfl) (ex_load1 4 Tryz.isAgg4 rfl rfl ((unhide LL).get 0 rfl) (unhide H6)) ?_); simp only [Act.put, List.setIfInBounds_toArray, List.set_cons_succ, List.set_cons_zero]) | ((refine rd (by rfl) (ex_load1 32 Tryz.isAgg32 rfl rfl ((unhide LL).get 0 rfl) (unhide H7)) ?_); simp only [Act.put, List.setIfInBounds_toArray, List.set_cons_succ, List.set_cons_zero]) | ((refine alV (v := .map none) 85 [.map none] (by rfl) rfl (fun w => by kernel_rfl) rfl (Nat.succ_pos _) (unhide LL) ?_); intro X2 B2 hE2 L2 hb2; have hB2 := hide (Nat.le_trans (unhide LL).fr.size (Nat.le_of_eq hE2.symm)); have hNE : Hid (M ≠ B2) := hide (Nat.ne_of_lt (Nat.lt_of_lt_of_le (unhide HM).lt (Nat.le_of_eq hE2.symm))); replace HM := hide ((unhide HM).on hb2); replace LL := hide L2; clear L2 hb2 hE2; simp only [Act.put, List.setIfInBounds_toArray, List.set_cons_succ, List.set_cons_zero]) | ((refine st (vs := [.map (some M)]) 1 85 (by rfl) rfl rfl rfl rfl (by simp [Value.oneCell']) szM (unhide LL) rfl (by simp [cput]) (Or.inr (unhide hB2)) ?_); intro X3 L3 hf3 hs3; replace HM := hide ((unhide HM).far hf3 (unhide hNE)); replace LL := hide L3; clear L3 hf3 hs3; simp only [Act.put, List.setIfInBounds_toArray, List.set_cons_succ, List.set_cons_zero]) | ((refine rd (by rfl) (ex_load1 32 Tryz.isAgg32 rfl rfl ((unhide LL).get 0 rfl) (unhide H15)) ?_); simp only [Act.put, List.setIfInBounds_toArray, List.set_cons_succ, List.set_cons_zero])))
    refine (hasIxM c.iA c.ic c.is.ps (.pointer (some ⟨B2, 0, none⟩)) (fun p => !(fO c.was.ps p.k).isSome) _ ((unhide HI).fr (unhide LL).fr) (unhide HZ2) (fun j p hp X hX => moreKeys1_any p B2 M n _ (fO c.was.ps) X ((unhide HI) j p hp).1.2 (((unhide LL).get 1 rfl).fr (Nat.succ_pos _) hX) ((unhide HM).fr hX))).mono ?_
    rintro e X5 ⟨rfl, hb5⟩
    replace LL := hide ((unhide LL).on hb5)
    clear hb5
    go_wp2_with (first | go_skip | ((with_reducible show wpList _ _ _ _ _ _); first | ((refine rd (by rfl) (ex_load1 4 Tryz.isAgg4 rfl rfl ((unhide LL).get 0 rfl) (unhide H6)) ?_); simp only [Act.put, List.setIfInBounds_toArray, List.set_cons_succ, List.set_cons_zero])))
    go_ret
    exact ⟨by simp, (unhide LL).fr.below⟩
  · go_enter Tryz.func40, Tryz.ntmps40
    go_wp2_with (first | go_skip | ((with_reducible show wpList _ _ _ _ _ _); first | ((refine bx 46 cc (by rfl) rfl rfl rfl (unhide HL) (unhide LL) ?_); intro X1 B1 hE1 L1 hb1; replace LL := hide L1; clear L1 hb1 hE1; simp only [Act.put, List.setIfInBounds_toArray, List.set_cons_succ, List.set_cons_zero]) | ((refine rd (by rfl) (ex_load1 4 Tryz.isAgg4 rfl rfl ((unhide LL).get 0 rfl) (unhide H6)) ?_); simp only [Act.put, List.setIfInBounds_toArray, List.set_cons_succ, List.set_cons_zero])))
    go_ret
    exact ⟨by simp, (unhide LL).fr.below⟩
def seV (s : SH) : Bool := !s.x && !s.ps.any looseP
def frV (s : SH) : Bool := seV s && !s.ps.any chgP
set_option maxRecDepth 100000 in
theorem sealed_any (s : SH) (SA : Option Addr) (sc : Nat) (w : World) (hW : ReadsP w SA s.ps) (hz : s.ps.length ≤ 733007751850) : Calls Tryz.prog 11 #[s.agg SA sc] w fun e w' => e = .returned (.bool (seV s)) ∧ Below w.heap.size w w' := by
  have LL := hide (Hq.nil w [])
  have HW := hide hW
  have HZ := hide hz
  clear hW hz
  have H6 : Hid ((s.cs SA sc)[6]? = some (.bool s.x)) := hide rfl
  unfold seV
  rw [sagg]
  generalize s.x = x at *
  cases x
  · go_enter Tryz.func11, Tryz.ntmps11
    go_wp2_with (first | go_skip | ((with_reducible show wpList _ _ _ _ _ _); first | ((refine bx 34 (s.cs SA sc) (by rfl) rfl rfl rfl (Nat.succ_pos _) (unhide LL) ?_); intro X1 B1 hE1 L1 hb1; replace LL := hide L1; clear L1 hb1 hE1; simp only [Act.put, List.setIfInBounds_toArray, List.set_cons_succ, List.set_cons_zero]) | ((refine rd (by rfl) (ex_load1 4 Tryz.isAgg4 rfl rfl ((unhide LL).get 0 rfl) (unhide H6)) ?_); simp only [Act.put, List.setIfInBounds_toArray, List.set_cons_succ, List.set_cons_zero]) | ((refine rd (by rfl) (ex_load1 32 Tryz.isAgg32 rfl rfl ((unhide LL).get 0 rfl) rfl) ?_); simp only [Act.put, List.setIfInBounds_toArray, List.set_cons_succ, List.set_cons_zero])))
    refine (hasIxL SA sc s.ps looseP _ ((unhide HW).fr (unhide LL).fr) (unhide HZ) (fun j p hp X hX => loose_any p X)).mono ?_
    rintro e X5 ⟨rfl, hb5⟩
    replace LL := hide ((unhide LL).on hb5)
    clear hb5
    go_wp2_with (first | go_skip | ((with_reducible show wpList _ _ _ _ _ _); first | ((refine rd (by rfl) (ex_load1 4 Tryz.isAgg4 rfl rfl ((unhide LL).get 0 rfl) (unhide H6)) ?_); simp only [Act.put, List.setIfInBounds_toArray, List.set_cons_succ, List.set_cons_zero])))
    go_ret
    exact ⟨by simp, (unhide LL).fr.below⟩
  · go_enter Tryz.func11, Tryz.ntmps11
    go_wp2_with (first | go_skip | ((with_reducible show wpList _ _ _ _ _ _); first | ((refine bx 34 (s.cs SA sc) (by rfl) rfl rfl rfl (Nat.succ_pos _) (unhide LL) ?_); intro X1 B1 hE1 L1 hb1; replace LL := hide L1; clear L1 hb1 hE1; simp only [Act.put, List.setIfInBounds_toArray, List.set_cons_succ, List.set_cons_zero]) | ((refine rd (by rfl) (ex_load1 4 Tryz.isAgg4 rfl rfl ((unhide LL).get 0 rfl) (unhide H6)) ?_); simp only [Act.put, List.setIfInBounds_toArray, List.set_cons_succ, List.set_cons_zero]) | ((refine rd (by rfl) (ex_load1 32 Tryz.isAgg32 rfl rfl ((unhide LL).get 0 rfl) rfl) ?_); simp only [Act.put, List.setIfInBounds_toArray, List.set_cons_succ, List.set_cons_zero])))
    go_ret
    exact ⟨by simp, (unhide LL).fr.below⟩
set_option maxRecDepth 100000 in
theorem frozen_any (s : SH) (SA : Option Addr) (sc : Nat) (w : World) (hW : ReadsP w SA s.ps) (hz : s.ps.length ≤ 733007751850) : Calls Tryz.prog 13 #[s.agg SA sc] w fun e w' => e = .returned (.bool (frV s)) ∧ Below w.heap.size w w' := by
  have LL := hide (Hq.nil w [])
  have HW := hide hW
  have HZ := hide hz
  have HS := hide (fun w hW => sealed_any s SA sc w hW hz)
  clear hW hz
  unfold frV
  simp only [sagg] at HS ⊢
  generalize seV s = q at *
  go_enter Tryz.func13, Tryz.ntmps13
  go_wp2_with (first | go_skip | ((with_reducible show wpList _ _ _ _ _ _); first | ((refine bx 34 (s.cs SA sc) (by rfl) rfl rfl rfl (Nat.succ_pos _) (unhide LL) ?_); intro X1 B1 hE1 L1 hb1; replace LL := hide L1; clear L1 hb1 hE1; simp only [Act.put, List.setIfInBounds_toArray, List.set_cons_succ, List.set_cons_zero]) | ((refine rd (by rfl) (ex_loadN (vs := s.cs SA sc) 34 8 rwS szS rfl rfl ((unhide LL).get 0 rfl) rfl rfl) ?_); simp only [Act.put, List.setIfInBounds_toArray, List.set_cons_succ, List.set_cons_zero])))
  refine (unhide HS _ ((unhide HW).fr (unhide LL).fr)).mono ?_
  rintro e X5 ⟨rfl, hb5⟩
  replace LL := hide ((unhide LL).on hb5)
  clear hb5
  cases q
  · go_wp2_with (first | go_skip | ((with_reducible show wpList _ _ _ _ _ _); first | ((refine rd (by rfl) (ex_load1 32 Tryz.isAgg32 rfl rfl ((unhide LL).get 0 rfl) rfl) ?_); simp only [Act.put, List.setIfInBounds_toArray, List.set_cons_succ, List.set_cons_zero])))
    go_ret
    exact ⟨by simp, (unhide LL).fr.below⟩
  · go_wp2_with (first | go_skip | ((with_reducible show wpList _ _ _ _ _ _); first | ((refine rd (by rfl) (ex_load1 32 Tryz.isAgg32 rfl rfl ((unhide LL).get 0 rfl) rfl) ?_); simp only [Act.put, List.setIfInBounds_toArray, List.set_cons_succ, List.set_cons_zero])))
    refine (hasIxC SA sc s.ps chgP _ ((unhide HW).fr (unhide LL).fr) (unhide HZ) (fun j p hp X hX => changeable_any p X)).mono ?_
    rintro e X6 ⟨rfl, hb6⟩
    replace LL := hide ((unhide LL).on hb6)
    clear hb6
    go_wp2_with (first | go_skip | ((with_reducible show wpList _ _ _ _ _ _); first | ((refine rd (by rfl) (ex_load1 32 Tryz.isAgg32 rfl rfl ((unhide LL).get 0 rfl) rfl) ?_); simp only [Act.put, List.setIfInBounds_toArray, List.set_cons_succ, List.set_cons_zero])))
    go_ret
    exact ⟨by simp, (unhide LL).fr.below⟩
end Go.Proofs.YtcflglloopgieaaGreatDoor
