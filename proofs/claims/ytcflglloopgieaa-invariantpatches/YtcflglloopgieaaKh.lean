import Derived.Test.YtcflglloopgieaaKg
namespace Go.Proofs.Ytcflglloopgieaa
open Go Go.Proofs Go.Maps Go.RowKit FM
set_option linter.unusedSimpArgs false
set_option linter.unusedVariables false
set_option maxHeartbeats 1000000
/-- A row: a property, the number of the next one with its key, and whether it is gone. -/
structure RW where
  p : PR
  nx : Nat
  g : Bool
def liv (k : KK) (r : RW) : Bool := !r.g && decide (r.p.k = k)
theorem liv_true {k : KK} {r : RW} : liv k r = true ↔ r.g = false ∧ r.p.k = k := by simp [liv]
theorem liv_not {k : KK} {r : RW} (h : r.p.k ≠ k) : liv k r = false := by simp [liv, h]
/-- n is the number, from 1 on, of the first row at i or behind it that is there and has the key; 0, if there is none. -/
def NL (rs : List RW) (k : KK) (i n : Nat) : Prop :=
  (n = 0 ∧ ∀ (j : Nat) (r : RW), i ≤ j → rs[j]? = some r → liv k r = false) ∨
  (∃ (m : Nat) (r : RW), n = m + 1 ∧ i ≤ m ∧ rs[m]? = some r ∧ liv k r = true ∧ ∀ (j : Nat) (q : RW), i ≤ j → j < m → rs[j]? = some q → liv k q = false)
structure RIi (rs : List RW) (F : KK → Option Nat) (i : Nat) : Prop where
  fst : ∀ k, NL rs k i ((F k).getD 0)
  nxt : ∀ (j : Nat) (r : RW), i ≤ j → rs[j]? = some r → r.g = false → NL rs r.p.k (j + 1) r.nx
/-- Rows are changed in ways that a key does not see. -/
theorem NL.congr {rs rs' : List RW} {k : KK} {i n : Nat} (h : NL rs k i n) (hl : ∀ (j : Nat) (r' : RW), i ≤ j → rs'[j]? = some r' → (∃ r, rs[j]? = some r ∧ liv k r' = liv k r) ∨ liv k r' = false ∧ n ≠ j + 1) (hb : ∀ (j : Nat) (r : RW), rs[j]? = some r → ∃ r', rs'[j]? = some r') : NL rs' k i n := by
  rcases h with ⟨rfl, h⟩ | ⟨m, r, rfl, hm, hr, hv, h⟩
  · refine .inl ⟨rfl, fun j r' hj hr' => ?_⟩
    rcases hl j r' hj hr' with ⟨r, hr, e⟩ | ⟨e, _⟩
    · rw [e]; exact h j r hj hr
    · exact e
  · obtain ⟨r', hr'⟩ := hb m r hr
    refine .inr ⟨m, r', rfl, hm, hr', ?_, fun j q hj hjm hq => ?_⟩
    · rcases hl m r' hm hr' with ⟨r2, h2, e⟩ | ⟨_, e⟩
      · obtain rfl := Option.some.inj (hr.symm.trans h2)
        rw [e]; exact hv
      · exact absurd rfl e
    · rcases hl j q hj hq with ⟨r2, h2, e⟩ | ⟨e, _⟩
      · rw [e]; exact h j r2 hj hjm h2
      · exact e
def lvs (rs : List RW) : List PR := (rs.filter (fun r => !r.g)).map (·.p)
theorem lvs_append (a b : List RW) : lvs (a ++ b) = lvs a ++ lvs b := by simp [lvs]
theorem lvs_mem {rs : List RW} {p : PR} (h : p ∈ lvs rs) : ∃ (j : Nat) (r : RW), rs[j]? = some r ∧ r.g = false ∧ r.p = p := by
  obtain ⟨r, hr, rfl⟩ := List.mem_map.1 h
  obtain ⟨h1, h2⟩ := List.mem_filter.1 hr
  obtain ⟨j, hj⟩ := List.getElem?_of_mem h1
  exact ⟨j, r, hj, by simpa using h2, rfl⟩
theorem split_at {rs : List RW} {n : Nat} {r : RW} (h : rs[n]? = some r) : rs = rs.take n ++ r :: rs.drop (n + 1) := by
  obtain ⟨hn, rfl⟩ := List.getElem?_eq_some_iff.1 h
  conv => lhs; rw [← List.take_append_drop n rs, List.drop_eq_getElem_cons hn]
theorem set_split {rs : List RW} {n : Nat} {r : RW} (hn : n < rs.length) : rs.set n r = rs.take n ++ r :: rs.drop (n + 1) := by
  rw [List.set_eq_take_append_cons_drop, if_pos hn]
theorem head_free {rs : List RW} {k : KK} {n : Nat} (h : ∀ (j : Nat) (q : RW), 0 ≤ j → j < n → rs[j]? = some q → liv k q = false) : ∀ p ∈ lvs (rs.take n), p.k ≠ k := by
  intro p hp e
  obtain ⟨j, r, hj, hg, rfl⟩ := lvs_mem hp
  rw [List.getElem?_take] at hj
  split at hj
  · have := h j r (Nat.zero_le _) (by assumption) hj
    simp [liv, hg, e] at this
  · cases hj
section
variable {rs : List RW} {F : KK → Option Nat} {k : KK} {d : DD}
theorem RIi.first (h : RIi rs F 0) {n : Nat} (hn : (F k).getD 0 = n + 1) : ∃ r : RW, rs[n]? = some r ∧ r.g = false ∧ r.p.k = k ∧ ∀ (j : Nat) (q : RW), 0 ≤ j → j < n → rs[j]? = some q → liv k q = false := by
  rcases h.fst k with ⟨h1, _⟩ | ⟨m, r, h1, _, h3, h4, h5⟩
  · omega
  · obtain rfl : m = n := by omega
    exact ⟨r, h3, (liv_true.1 h4).1, (liv_true.1 h4).2, h5⟩
theorem RIi.put_old (h : RIi rs F 0) {n : Nat} (hn : (F k).getD 0 = n + 1) {r : RW} (hr : rs[n]? = some r) : RIi (rs.set n ⟨⟨r.p.k, d⟩, r.nx, r.g⟩) F 0 ∧ lvs (rs.set n ⟨⟨r.p.k, d⟩, r.nx, r.g⟩) = putP k d (lvs rs) := by
  obtain ⟨r0, h0, hg, hk, hf⟩ := h.first hn
  obtain rfl := Option.some.inj (hr.symm.trans h0)
  have hnl := (List.getElem?_eq_some_iff.1 hr).1
  have look : ∀ (j : Nat) (r' : RW), (rs.set n ⟨⟨r.p.k, d⟩, r.nx, r.g⟩)[j]? = some r' → ∃ q, rs[j]? = some q ∧ q.g = r'.g ∧ q.p.k = r'.p.k ∧ q.nx = r'.nx := by
    intro j r' hj
    rw [List.getElem?_set] at hj
    split at hj
    · rename_i e
      subst e
      try rw [if_pos hnl] at hj
      obtain rfl := Option.some.inj hj
      exact ⟨r, hr, rfl, rfl, rfl⟩
    · exact ⟨r', hj, rfl, rfl, rfl⟩
  have back : ∀ (j : Nat) (q : RW), rs[j]? = some q → ∃ r', (rs.set n ⟨⟨r.p.k, d⟩, r.nx, r.g⟩)[j]? = some r' := by
    intro j q hj
    have := (List.getElem?_eq_some_iff.1 hj).1
    exact ⟨_, List.getElem?_eq_getElem (by rw [List.length_set]; exact this)⟩
  have cg : ∀ (k : KK) (i n' : Nat), NL rs k i n' → NL (rs.set n ⟨⟨r.p.k, d⟩, r.nx, r.g⟩) k i n' := fun k i n' hN => hN.congr (fun j r' hj hr' => by
    obtain ⟨q, h1, h2, h3, _⟩ := look j r' hr'
    exact .inl ⟨q, h1, by simp [liv, h2, h3]⟩) back
  refine ⟨⟨fun k => cg _ _ _ (h.fst k), fun j r' hj hr' hg' => ?_⟩, ?_⟩
  · obtain ⟨q, h1, h2, h3, h4⟩ := look j r' hr'
    rw [← h3, ← h4]
    exact cg _ _ _ (h.nxt j q hj h1 (h2.trans hg'))
  · rw [set_split hnl]
    conv => rhs; rw [split_at hr]
    rw [lvs_append, lvs_append]
    have e1 : lvs (r :: rs.drop (n + 1)) = r.p :: lvs (rs.drop (n + 1)) := by simp [lvs, hg]
    have e2 : lvs (⟨⟨r.p.k, d⟩, r.nx, r.g⟩ :: rs.drop (n + 1)) = ⟨r.p.k, d⟩ :: lvs (rs.drop (n + 1)) := by simp [lvs, hg]
    rw [e1, e2, ← hk]
    exact (putP_at _ _ _ _ (by rw [hk]; exact head_free hf)).symm
theorem RIi.absent (h : RIi rs F 0) (hn : (F k).getD 0 = 0) : ∀ p ∈ lvs rs, p.k ≠ k := by
  rcases h.fst k with ⟨_, h1⟩ | ⟨m, r, h1, _⟩
  · intro p hp e
    obtain ⟨j, r, hj, hg, rfl⟩ := lvs_mem hp
    have := h1 j r (Nat.zero_le _) hj
    simp [liv, hg, e] at this
  · omega
theorem RIi.put_new (h : RIi rs F 0) (hn : (F k).getD 0 = 0) : RIi (rs ++ [⟨⟨k, d⟩, 0, false⟩]) (putF F k (rs.length + 1)) 0 ∧ lvs (rs ++ [⟨⟨k, d⟩, 0, false⟩]) = putP k d (lvs rs) := by
  have none_k : ∀ (j : Nat) (r : RW), rs[j]? = some r → liv k r = false := by
    rcases h.fst k with ⟨_, h1⟩ | ⟨m, r, h1, _⟩
    · exact fun j r hr => h1 j r (Nat.zero_le _) hr
    · omega
  have look : ∀ (j : Nat) (r' : RW), (rs ++ [⟨⟨k, d⟩, 0, false⟩])[j]? = some r' → rs[j]? = some r' ∨ j = rs.length ∧ r' = ⟨⟨k, d⟩, 0, false⟩ := by
    intro j r' hj
    rcases Nat.lt_or_ge j rs.length with h1 | h1
    · rw [List.getElem?_append_left h1] at hj
      exact .inl hj
    · rw [List.getElem?_append_right h1] at hj
      have h2 : j - rs.length = 0 := by
        have := (List.getElem?_eq_some_iff.1 hj).1
        simpa using this
      rw [h2] at hj
      exact .inr ⟨by omega, (by simpa using hj.symm)⟩
  have back : ∀ (j : Nat) (q : RW), rs[j]? = some q → ∃ r', (rs ++ [⟨⟨k, d⟩, 0, false⟩])[j]? = some r' := by
    intro j q hj
    have := (List.getElem?_eq_some_iff.1 hj).1
    exact ⟨q, by rw [List.getElem?_append_left this]; exact hj⟩
  have cg : ∀ (k' : KK) (i n' : Nat), k' ≠ k → NL rs k' i n' → NL (rs ++ [⟨⟨k, d⟩, 0, false⟩]) k' i n' := fun k' i n' hne hN => hN.congr (fun j r' hj hr' => by
    rcases look j r' hr' with h1 | ⟨rfl, rfl⟩
    · exact .inl ⟨r', h1, rfl⟩
    · refine .inr ⟨liv_not (fun e => hne e.symm), fun e => ?_⟩
      rcases hN with ⟨h1, _⟩ | ⟨m, r, h1, _, h2, _⟩
      · omega
      · have := (List.getElem?_eq_some_iff.1 h2).1
        omega) back
  refine ⟨⟨fun k' => ?_, fun j r' hj hr' hg' => ?_⟩, ?_⟩
  · by_cases e : k' = k
    · subst e
      simp only [putF, if_true, Option.getD_some]
      refine .inr ⟨rs.length, ⟨⟨k', d⟩, 0, false⟩, rfl, Nat.zero_le _, by simp, by simp [liv], fun j q _ hj hq => ?_⟩
      rw [List.getElem?_append_left hj] at hq
      exact none_k j q hq
    · simp only [putF, if_neg e]
      exact cg _ _ _ e (h.fst k')
  · rcases look j r' hr' with h1 | ⟨rfl, rfl⟩
    · have hne : r'.p.k ≠ k := fun e => by
        have := none_k j r' h1
        simp [liv, hg', e] at this
      exact cg _ _ _ hne (h.nxt j r' hj h1 hg')
    · refine .inl ⟨rfl, fun j r hj hr => ?_⟩
      have := (List.getElem?_eq_some_iff.1 hr).1
      simp at this
      omega
  · rw [putP_new _ _ _ (h.absent hn), lvs_append]
    simp [lvs]
theorem RIi.del (h : RIi rs F 0) {n : Nat} (hn : (F k).getD 0 = n + 1) {r : RW} (hr : rs[n]? = some r) : RIi (rs.set n ⟨r.p, r.nx, true⟩) (putF F k r.nx) 0 ∧ delP k (lvs rs) = some (lvs (rs.set n ⟨r.p, r.nx, true⟩)) := by
  obtain ⟨r0, h0, hg, hk, hf⟩ := h.first hn
  obtain rfl := Option.some.inj (hr.symm.trans h0)
  have hnl := (List.getElem?_eq_some_iff.1 hr).1
  have look : ∀ (j : Nat) (r' : RW), (rs.set n ⟨r.p, r.nx, true⟩)[j]? = some r' → (j ≠ n ∧ rs[j]? = some r') ∨ j = n ∧ r' = ⟨r.p, r.nx, true⟩ := by
    intro j r' hj
    rw [List.getElem?_set] at hj
    split at hj
    · rename_i e
      subst e
      try rw [if_pos hnl] at hj
      exact .inr ⟨rfl, (Option.some.inj hj).symm⟩
    · exact .inl ⟨fun e => by omega, hj⟩
  have back : ∀ (j : Nat) (q : RW), rs[j]? = some q → ∃ r', (rs.set n ⟨r.p, r.nx, true⟩)[j]? = some r' := by
    intro j q hj
    have := (List.getElem?_eq_some_iff.1 hj).1
    exact ⟨_, List.getElem?_eq_getElem (by rw [List.length_set]; exact this)⟩
  have cg : ∀ (k' : KK) (i n' : Nat), (k' ≠ k ∨ n < i) → NL rs k' i n' → NL (rs.set n ⟨r.p, r.nx, true⟩) k' i n' := fun k' i n' hne hN => hN.congr (fun j r' hj hr' => by
    rcases look j r' hr' with ⟨_, h1⟩ | ⟨rfl, rfl⟩
    · exact .inl ⟨r', h1, rfl⟩
    · rcases hne with hne | hne
      · refine .inl ⟨r, hr, ?_⟩
        rw [liv_not (show r.p.k ≠ k' from fun e => hne (e.symm.trans hk))]
        simp [liv]
      · omega) back
  refine ⟨⟨fun k' => ?_, fun j r' hj hr' hg' => ?_⟩, ?_⟩
  · by_cases e : k' = k
    · subst e
      simp only [putF, if_true, Option.getD_some]
      have h1 := cg k' (n + 1) r.nx (.inr (Nat.lt_succ_self n)) (hk ▸ h.nxt n r (Nat.zero_le _) hr hg)
      have low : ∀ (j : Nat) (q : RW), j < n + 1 → (rs.set n ⟨r.p, r.nx, true⟩)[j]? = some q → liv k' q = false := by
        intro j q hj hq
        rcases look j q hq with ⟨h2, h3⟩ | ⟨rfl, rfl⟩
        · exact hf j q (Nat.zero_le _) (by omega) h3
        · simp [liv]
      rcases h1 with ⟨h2, h3⟩ | ⟨m, q, h2, h3, h4, h5, h6⟩
      · refine .inl ⟨h2, fun j q _ hq => ?_⟩
        rcases Nat.lt_or_ge j (n + 1) with h7 | h7
        · exact low j q h7 hq
        · exact h3 j q h7 hq
      · refine .inr ⟨m, q, h2, Nat.zero_le _, h4, h5, fun j x _ hjm hx => ?_⟩
        rcases Nat.lt_or_ge j (n + 1) with h7 | h7
        · exact low j x h7 hx
        · exact h6 j x h7 hjm hx
    · simp only [putF, if_neg e]
      exact cg _ _ _ (.inl e) (h.fst k')
  · rcases look j r' hr' with ⟨hne, h1⟩ | ⟨rfl, rfl⟩
    · refine cg _ _ _ ?_ (h.nxt j r' hj h1 hg')
      by_cases e : r'.p.k = k
      · refine .inr ?_
        rcases Nat.lt_or_ge j n with h2 | h2
        · have := hf j r' (Nat.zero_le _) h2 h1
          simp [liv, hg', e] at this
        · omega
      · exact .inl e
    · cases hg'
  · rw [set_split hnl]
    conv => lhs; rw [split_at hr]
    rw [lvs_append, lvs_append]
    have e1 : lvs (r :: rs.drop (n + 1)) = r.p :: lvs (rs.drop (n + 1)) := by simp [lvs, hg]
    have e2 : lvs (⟨r.p, r.nx, true⟩ :: rs.drop (n + 1)) = lvs (rs.drop (n + 1)) := by simp [lvs]
    rw [e1, e2, ← hk]
    exact delP_at _ _ _ (by rw [hk]; exact head_free hf)
theorem RIi.del_none (h : RIi rs F 0) (hn : (F k).getD 0 = 0) : delP k (lvs rs) = none := delP_none _ _ (h.absent hn)
end
/-- Rows in the making: those from i on are there. -/
structure MK (ps : List PR) (rs : List RW) (F : KK → Option Nat) (i : Nat) : Prop where
  ri : RIi rs F i
  len : rs.length = ps.length
  at_ : ∀ (j : Nat) (r : RW), i ≤ j → rs[j]? = some r → r.g = false ∧ ps[j]? = some r.p
theorem MK.start (ps : List PR) (rs : List RW) (h : rs.length = ps.length) : MK ps rs (fun _ => none) ps.length := by
  have no : ∀ (j : Nat) (r : RW), ps.length ≤ j → rs[j]? = some r → False := fun j r hj hr => by
    have := (List.getElem?_eq_some_iff.1 hr).1
    omega
  exact ⟨⟨fun k => .inl ⟨rfl, fun j r hj hr => (no j r hj hr).elim⟩, fun j r hj hr => (no j r hj hr).elim⟩, h, fun j r hj hr => (no j r hj hr).elim⟩
theorem MK.step {ps : List PR} {rs : List RW} {F : KK → Option Nat} {i : Nat} {p : PR} (h : MK ps rs F (i + 1)) (hp : ps[i]? = some p) : MK ps (rs.set i ⟨p, (F p.k).getD 0, false⟩) (putF F p.k (i + 1)) i := by
  have hil : i < rs.length := by rw [h.len]; exact (List.getElem?_eq_some_iff.1 hp).1
  have look : ∀ (j : Nat) (r' : RW), (rs.set i ⟨p, (F p.k).getD 0, false⟩)[j]? = some r' → (j ≠ i ∧ rs[j]? = some r') ∨ j = i ∧ r' = ⟨p, (F p.k).getD 0, false⟩ := by
    intro j r' hj
    rw [List.getElem?_set] at hj
    split at hj
    · rename_i e
      subst e
      try rw [if_pos hil] at hj
      exact .inr ⟨rfl, (Option.some.inj hj).symm⟩
    · exact .inl ⟨fun e => by omega, hj⟩
  have back : ∀ (j : Nat) (q : RW), rs[j]? = some q → ∃ r', (rs.set i ⟨p, (F p.k).getD 0, false⟩)[j]? = some r' := by
    intro j q hj
    have := (List.getElem?_eq_some_iff.1 hj).1
    exact ⟨_, List.getElem?_eq_getElem (by rw [List.length_set]; exact this)⟩
  have cg : ∀ (k' : KK) (a n' : Nat), i + 1 ≤ a → NL rs k' a n' → NL (rs.set i ⟨p, (F p.k).getD 0, false⟩) k' a n' := fun k' a n' ha hN => hN.congr (fun j r' hj hr' => by
    rcases look j r' hr' with ⟨_, h1⟩ | ⟨rfl, rfl⟩
    · exact .inl ⟨r', h1, rfl⟩
    · omega) back
  have hself : (rs.set i ⟨p, (F p.k).getD 0, false⟩)[i]? = some ⟨p, (F p.k).getD 0, false⟩ := List.getElem?_set_self hil
  refine ⟨⟨fun k => ?_, fun j r hj hr hg => ?_⟩, by rw [List.length_set]; exact h.len, fun j r hj hr => ?_⟩
  · by_cases e : k = p.k
    · subst e
      simp only [putF, if_true, Option.getD_some]
      exact .inr ⟨i, _, rfl, Nat.le_refl _, hself, by simp [liv], fun j q h1 h2 => by omega⟩
    · simp only [putF, if_neg e]
      have lo : liv k ⟨p, (F p.k).getD 0, false⟩ = false := liv_not (fun e' => e e'.symm)
      rcases cg k (i + 1) _ (Nat.le_refl _) (h.ri.fst k) with ⟨h1, h2⟩ | ⟨m, r, h1, h2, h3, h4, h5⟩
      · refine .inl ⟨h1, fun j r hj hr => ?_⟩
        rcases Nat.eq_or_lt_of_le hj with rfl | h6
        · obtain rfl := Option.some.inj (hself.symm.trans hr)
          exact lo
        · exact h2 j r h6 hr
      · refine .inr ⟨m, r, h1, by omega, h3, h4, fun j q hj hjm hq => ?_⟩
        rcases Nat.eq_or_lt_of_le hj with rfl | h6
        · obtain rfl := Option.some.inj (hself.symm.trans hq)
          exact lo
        · exact h5 j q h6 hjm hq
  · rcases look j r hr with ⟨hne, h1⟩ | ⟨rfl, rfl⟩
    · exact cg _ _ _ (by omega) (h.ri.nxt j r (by omega) h1 hg)
    · exact cg _ _ _ (Nat.le_refl _) (h.ri.fst _)
  · rcases look j r hr with ⟨hne, h1⟩ | ⟨rfl, rfl⟩
    · exact h.at_ j r (by omega) h1
    · exact ⟨rfl, hp⟩
theorem MK.done {ps : List PR} {rs : List RW} {F : KK → Option Nat} (h : MK ps rs F 0) : lvs rs = ps := by
  have e1 : rs.filter (fun r => !r.g) = rs := List.filter_eq_self.2 (fun r hr => by
    obtain ⟨j, hj⟩ := List.getElem?_of_mem hr
    simp [(h.at_ j r (Nat.zero_le _) hj).1])
  unfold lvs
  rw [e1]
  apply List.ext_getElem?
  intro j
  rw [List.getElem?_map]
  cases hj : rs[j]? with
  | none =>
    have := List.getElem?_eq_none_iff.1 hj
    rw [List.getElem?_eq_none (by rw [← h.len]; exact this)]
    rfl
  | some r => exact (h.at_ j r (Nat.zero_le _) hj).2.symm
end Go.Proofs.Ytcflglloopgieaa
