import Derived.Test.YtcflglloopgieaaGreatDoorQv
import Derived.Test.YtcflglloopgieaaGreatDoorRa

/-! Kg -/
namespace Go.Proofs.YtcflglloopgieaaGreatDoor
open Go Go.Proofs Go.Maps Go.RowKit FM
set_option linter.unusedSimpArgs false
set_option linter.unusedVariables false
set_option maxHeartbeats 1000000
/-! What Patch does, as lists. -/
def delP (k : KK) : List PR → Option (List PR)
  | [] => none
  | p :: l => if p.k = k then some l else (delP k l).map (p :: ·)
def putP (k : KK) (d : DD) : List PR → List PR
  | [] => [⟨k, d⟩]
  | p :: l => if p.k = k then ⟨p.k, d⟩ :: l else p :: putP k d l
def take1 (s : SH) (d : DL) : Option SH :=
  if d.wh = 2 then some { s with c := d.n } else if d.wh = 3 then some { s with p := d.v } else if d.wh = 4 then some { s with x := d.y }
  else if d.wh = 5 then (delP d.k s.ps).map (fun ps => { s with ps := ps }) else if d.wh = 6 then some { s with ps := putP d.k d.d s.ps } else none
def takeL (m : List SH) (d : DL) : Option (List SH) :=
  if d.wh = 1 ∧ d.o = (m.length : Int) + 1 then some (m ++ [⟨d.n, d.v, d.y, []⟩])
  else if 1 ≤ d.o ∧ d.o < (m.length : Int) + 1 then (m[d.o.toNat - 1]?).bind (fun s => (take1 s d).map (fun t => m.set (d.o.toNat - 1) t)) else none
def patchL : List SH → List DL → Option (List SH)
  | m, [] => some m
  | m, d :: l => (takeL m d).bind (fun m' => patchL m' l)
theorem patchL_append (l k : List DL) : ∀ m, patchL m (l ++ k) = (patchL m l).bind (fun m' => patchL m' k) := by
  induction l with
  | nil => intro m; rfl
  | cons d l ih =>
    intro m
    simp only [List.cons_append, patchL]
    cases takeL m d with
    | none => rfl
    | some m' => exact ih m'
def fold1 : SH → List DL → Option SH
  | s, [] => some s
  | s, d :: l => (take1 s d).bind (fun s' => fold1 s' l)
theorem fold1_append (l k : List DL) : ∀ s, fold1 s (l ++ k) = (fold1 s l).bind (fun s' => fold1 s' k) := by
  induction l with
  | nil => intro s; rfl
  | cons d l ih =>
    intro s
    simp only [List.cons_append, fold1]
    cases take1 s d with
    | none => rfl
    | some m' => exact ih m'
theorem patch_one (i : Nat) : ∀ (l : List DL) (m : List SH) (s : SH), (∀ d ∈ l, d.o = (i : Int) + 1 ∧ d.wh ≠ 1) → m[i]? = some s → patchL m l = (fold1 s l).map (fun t => m.set i t)
  | [], m, s, _, hm => by
    obtain ⟨hi, rfl⟩ := List.getElem?_eq_some_iff.1 hm
    simp [patchL, fold1]
  | d :: l, m, s, hd, hm => by
    obtain ⟨hi, hs⟩ := List.getElem?_eq_some_iff.1 hm
    obtain ⟨h1, h2⟩ := hd d (List.mem_cons_self ..)
    have e1 : takeL m d = (take1 s d).map (fun t => m.set i t) := by
      unfold takeL
      rw [if_neg (fun h => h2 h.1), if_pos (by omega)]
      have e : d.o.toNat - 1 = i := by omega
      rw [e, hm]
      rfl
    simp only [patchL, fold1, e1]
    cases take1 s d with
    | none => rfl
    | some t =>
      simp only [Option.map_some, Option.bind_some]
      rw [patch_one i l (m.set i t) t (fun q hq => hd q (List.mem_cons_of_mem _ hq)) (by simp [hi])]
      cases fold1 t l with
      | none => rfl
      | some u => simp
def foldP : List PR → List DL → Option (List PR)
  | ps, [] => some ps
  | ps, d :: l => (if d.wh = 5 then delP d.k ps else some (putP d.k d.d ps)).bind (fun q => foldP q l)
theorem foldP_append (l k : List DL) : ∀ s, foldP s (l ++ k) = (foldP s l).bind (fun s' => foldP s' k) := by
  induction l with
  | nil => intro s; rfl
  | cons d l ih =>
    intro s
    simp only [List.cons_append, foldP]
    cases (if d.wh = 5 then delP d.k s else some (putP d.k d.d s)) with
    | none => rfl
    | some m' => exact ih m'
theorem fold_props : ∀ (l : List DL) (s : SH), (∀ d ∈ l, d.wh = 5 ∨ d.wh = 6) → fold1 s l = (foldP s.ps l).map (fun q => { s with ps := q })
  | [], s, _ => rfl
  | d :: l, s, h => by
    have ih := fun t => fold_props l t (fun q hq => h q (List.mem_cons_of_mem _ hq))
    rcases h d (List.mem_cons_self ..) with e | e
    · simp only [fold1, foldP, take1, e]
      simp only [show ((5 : Int) = 2) = False by simp, show ((5 : Int) = 3) = False by simp, show ((5 : Int) = 4) = False by simp, if_false, if_true]
      cases delP d.k s.ps with
      | none => rfl
      | some q => simp [ih]
    · simp only [fold1, foldP, take1, e]
      simp [ih]
/-- No key stands twice. -/
def OnceP (l : List PR) : Prop := ∀ (i j : Nat) (p q : PR), l[i]? = some p → l[j]? = some q → p.k = q.k → i = j
theorem fO_none {l : List PR} {k : KK} (h : fO l k = none) : ∀ p ∈ l, p.k ≠ k := by
  intro p hp
  unfold fO at h
  rw [List.findIdx?_eq_none_iff] at h
  simpa using h p hp
theorem cntK_le (l : List PR) : ∀ n, cntK l n ≤ n
  | 0 => by simp [cntK]
  | n + 1 => by
    have := cntK_le l n
    unfold cntK
    split
    · omega
    · split <;> omega
theorem cntK_all (l : List PR) : ∀ n, n ≤ l.length → cntK l n = n → ∀ (j : Nat) (p : PR), j < n → l[j]? = some p → fO (l.take j) p.k = none
  | 0, _, _, j, _, hj, _ => by omega
  | n + 1, hn, hc, j, p, hj, hp => by
    have hq : l[n]? = some l[n] := List.getElem?_eq_getElem (by omega)
    have hle := cntK_le l n
    cases hf : fO (l.take n) l[n].k with
    | some x =>
      rw [cntK_yes hq (by simp [hf])] at hc
      omega
    | none =>
      rw [cntK_no hq hf] at hc
      rcases Nat.lt_succ_iff_lt_or_eq.1 hj with h1 | rfl
      · exact cntK_all l n (by omega) (by omega) j p h1 hp
      · obtain ⟨h2, rfl⟩ := List.getElem?_eq_some_iff.1 hp
        exact hf
theorem once_of (l : List PR) (h : dblV l = false) : OnceP l := by
  have h1 : cntK l l.length = l.length := by
    have := cntK_le l l.length
    simp [dblV] at h
    omega
  have h2 := cntK_all l l.length (Nat.le_refl _) h1
  have key : ∀ (i j : Nat) (p q : PR), l[i]? = some p → l[j]? = some q → p.k = q.k → ¬ i < j := by
    intro i j p q hi hj e hij
    have hj' := (List.getElem?_eq_some_iff.1 hj).1
    refine fO_none (h2 j q hj' hj) p ?_ e
    refine List.mem_of_getElem? (i := i) ?_
    rw [List.getElem?_take, if_pos hij]
    exact hi
  intro i j p q hi hj e
  have a := key i j p q hi hj e
  have b := key j i q p hj hi e.symm
  omega
theorem delP_at : ∀ (a b : List PR) (p : PR), (∀ q ∈ a, q.k ≠ p.k) → delP p.k (a ++ p :: b) = some (a ++ b)
  | [], b, p, _ => by simp [delP]
  | q :: a, b, p, h => by
    have h1 := h q (List.mem_cons_self ..)
    simp [delP, h1, delP_at a b p (fun r hr => h r (List.mem_cons_of_mem _ hr))]
theorem putP_at : ∀ (a b : List PR) (p : PR) (d : DD), (∀ q ∈ a, q.k ≠ p.k) → putP p.k d (a ++ p :: b) = a ++ ⟨p.k, d⟩ :: b
  | [], b, p, d, _ => by simp [putP]
  | q :: a, b, p, d, h => by
    have h1 := h q (List.mem_cons_self ..)
    simp [putP, h1, putP_at a b p d (fun r hr => h r (List.mem_cons_of_mem _ hr))]
theorem putP_new : ∀ (a : List PR) (k : KK) (d : DD), (∀ q ∈ a, q.k ≠ k) → putP k d a = a ++ [⟨k, d⟩]
  | [], k, d, _ => rfl
  | q :: a, k, d, h => by
    have h1 := h q (List.mem_cons_self ..)
    simp [putP, h1, putP_new a k d (fun r hr => h r (List.mem_cons_of_mem _ hr))]
theorem delP_none : ∀ (a : List PR) (k : KK), (∀ q ∈ a, q.k ≠ k) → delP k a = none
  | [], k, _ => rfl
  | q :: a, k, h => by
    have h1 := h q (List.mem_cons_self ..)
    simp [delP, h1, delP_none a k (fun r hr => h r (List.mem_cons_of_mem _ hr))]
theorem stayT_sub (is was : List PR) : ∀ i, ∀ q ∈ stayT is was i, ∃ j, j < i ∧ was[j]? = some q
  | 0, q, hq => by simp [stayT] at hq
  | i + 1, q, hq => by
    have ih := stayT_sub is was i q
    unfold stayT at hq
    split at hq
    · obtain ⟨j, h1, h2⟩ := ih hq
      exact ⟨j, by omega, h2⟩
    · rename_i p hp
      split at hq
      · rcases List.mem_append.1 hq with hq | hq
        · obtain ⟨j, h1, h2⟩ := ih hq
          exact ⟨j, by omega, h2⟩
        · obtain rfl := List.mem_singleton.1 hq
          exact ⟨i, by omega, hp⟩
      · obtain ⟨j, h1, h2⟩ := ih hq
        exact ⟨j, by omega, h2⟩
theorem stayT_keys (is was : List PR) : ∀ (i j : Nat) (p : PR), (stayT is was i)[j]? = some p → ∃ q : PR, is[j]? = some q ∧ q.k = p.k
  | 0, j, p, h => by simp [stayT] at h
  | i + 1, j, p, h => by
    have ih := stayT_keys is was i j p
    unfold stayT at h
    split at h
    · exact ih h
    · rename_i r hr
      split at h
      · rename_i hh
        rcases Nat.lt_or_ge j (stayT is was i).length with h1 | h1
        · rw [List.getElem?_append_left h1] at h
          exact ih h
        · rw [List.getElem?_append_right h1] at h
          have hj : j - (stayT is was i).length = 0 := by
            have := (List.getElem?_eq_some_iff.1 h).1
            simpa using this
          have e : j = (stayT is was i).length := by omega
          rw [hj] at h
          obtain rfl : r = p := by simpa using h
          unfold hit at hh
          rw [← e] at hh
          cases hq : is[j]? with
          | none => simp [hq] at hh
          | some q => exact ⟨q, rfl, by simpa [hq] using hh⟩
      · exact ih h
theorem fold_gone (o : Int) (is was : List PR) (hw : OnceP was) : ∀ i, i ≤ was.length → foldP was (goT o is was i) = some (stayT is was i ++ was.drop i)
  | 0, _ => by simp [goT, foldP, stayT]
  | i + 1, hi => by
    have ih := fold_gone o is was hw i (by omega)
    have hp : was[i]? = some was[i] := List.getElem?_eq_getElem (by omega)
    have hd : was.drop i = was[i] :: was.drop (i + 1) := (List.drop_eq_getElem_cons (by omega))
    cases hh : hit is (stayT is was i) was[i] with
    | true =>
      obtain ⟨h1, h2⟩ := stayT_yes (o := o) hp hh
      rw [h2, h1, ih, hd]
      simp
    | false =>
      obtain ⟨h1, h2⟩ := stayT_no (o := o) hp hh
      rw [h2, h1, foldP_append, ih, hd]
      have : delP was[i].k (stayT is was i ++ was[i] :: was.drop (i + 1)) = some (stayT is was i ++ was.drop (i + 1)) := by
        refine delP_at _ _ _ (fun q hq e => ?_)
        obtain ⟨j, h3, h4⟩ := stayT_sub is was i q hq
        have := hw j i q _ h4 hp e
        omega
      simp only [Option.bind_some, foldP, goneL, if_true, this]
def midT (is st : List PR) (i : Nat) : List PR := st.mapIdx (fun j p => if j < i then (match is[j]? with
  | some q => if eqDD p.d q.d then p else ⟨p.k, q.d⟩
  | none => p) else p)
theorem midT_get {is st : List PR} {i j : Nat} {p : PR} (h : st[j]? = some p) : (midT is st i)[j]? = some (if j < i then (match is[j]? with
  | some q => if eqDD p.d q.d then p else ⟨p.k, q.d⟩
  | none => p) else p) := by
  simp [midT, h]
theorem midT_len (is st : List PR) (i : Nat) : (midT is st i).length = st.length := by simp [midT]
theorem midT_key {is st : List PR} {i j : Nat} {p q : PR} (h : st[j]? = some p) (hq : (midT is st i)[j]? = some q) : q.k = p.k := by
  rw [midT_get h] at hq
  obtain rfl := Option.some.inj hq
  split
  · split
    · split <;> rfl
    · rfl
  · rfl
theorem fold_ch (o : Int) (is st : List PR) (hs : OnceP st) (hk : ∀ (j : Nat) (p : PR), st[j]? = some p → ∃ q : PR, is[j]? = some q ∧ q.k = p.k) : ∀ i, i ≤ st.length → foldP st (chT o is st i) = some (midT is st i)
  | 0, _ => by
    simp only [chT, foldP]
    congr 1
    apply List.ext_getElem?
    intro j
    cases h : st[j]? with
    | none => simp [midT, h]
    | some p => rw [midT_get h]; simp
  | i + 1, hi => by
    have ih := fold_ch o is st hs hk i (by omega)
    have hp : st[i]? = some st[i] := List.getElem?_eq_getElem (by omega)
    obtain ⟨q, hq, hqk⟩ := hk i _ hp
    have same : ∀ j, j ≠ i → (midT is st (i + 1))[j]? = (midT is st i)[j]? := by
      intro j hj
      cases h : st[j]? with
      | none => simp [midT, h]
      | some p =>
        rw [midT_get h, midT_get h]
        by_cases h1 : j < i
        · rw [if_pos h1, if_pos (by omega)]
        · rw [if_neg h1, if_neg (by omega)]
    cases hh : eqDD st[i].d q.d with
    | true =>
      rw [chT_yes hp hq hh, ih]
      congr 1
      apply List.ext_getElem?
      intro j
      by_cases h1 : j = i
      · subst h1
        rw [midT_get hp, midT_get hp]
        simp [hq, hh]
      · exact (same j h1).symm
    | false =>
      rw [chT_no hp hq hh, foldP_append, ih]
      have hlen : i < (midT is st i).length := by rw [midT_len]; omega
      have hm : (midT is st i)[i] = st[i] := by
        have := midT_get (is := is) (i := i) hp
        rw [List.getElem?_eq_getElem hlen] at this
        simpa using this
      have hsplit : midT is st i = (midT is st i).take i ++ st[i] :: (midT is st i).drop (i + 1) := by
        conv => lhs; rw [← List.take_append_drop i (midT is st i), List.drop_eq_getElem_cons hlen, hm]
      have hput : putP q.k q.d (midT is st i) = (midT is st i).take i ++ ⟨st[i].k, q.d⟩ :: (midT is st i).drop (i + 1) := by
        rw [hqk]
        conv => lhs; rw [hsplit]
        refine putP_at _ _ _ _ (fun r hr e => ?_)
        obtain ⟨j, hj⟩ := List.getElem?_of_mem hr
        rw [List.getElem?_take] at hj
        split at hj
        · rename_i hji
          have hjs : st[j]? = some st[j] := List.getElem?_eq_getElem (by omega)
          have := hs j i _ _ hjs hp ((midT_key hjs hj).symm.trans e)
          omega
        · cases hj
      have : foldP (midT is st i) [putL o q] = some (putP q.k q.d (midT is st i)) := by simp [foldP, putL]
      simp only [Option.bind_some, this, hput]
      congr 1
      apply List.ext_getElem?
      intro j
      rcases Nat.lt_trichotomy j i with h1 | h1 | h1
      · rw [List.getElem?_append_left (by simp; omega), List.getElem?_take, if_pos h1, same j (by omega)]
      · subst h1
        rw [List.getElem?_append_right (by simp; omega)]
        rw [midT_get hp]
        simp [Nat.min_eq_left (Nat.le_of_lt hlen), hq, hh]
      · rw [List.getElem?_append_right (by simp; omega), same j (by omega)]
        have : j - ((midT is st i).take i).length = (j - (i + 1)) + 1 := by simp [Nat.min_eq_left (Nat.le_of_lt hlen)]; omega
        rw [this, List.getElem?_cons_succ, List.getElem?_drop]
        congr 1
        omega
theorem fold_new (o : Int) : ∀ (l a : List PR), (∀ (j : Nat) (q : PR), l[j]? = some q → (∀ r ∈ a, r.k ≠ q.k)) → OnceP l → foldP a (l.map (putL o)) = some (a ++ l)
  | [], a, _, _ => by simp [foldP]
  | q :: l, a, h, hl => by
    have h1 : putP q.k q.d a = a ++ [q] := putP_new a q.k q.d (h 0 q rfl)
    have ih := fold_new o l (a ++ [q]) (fun j r hr x hx e => by
      rcases List.mem_append.1 hx with hx | hx
      · exact h (j + 1) r hr x hx e
      · obtain rfl := List.mem_singleton.1 hx
        have := hl 0 (j + 1) x r rfl hr e
        omega) (fun i j p r hi hj e => by
      have := hl (i + 1) (j + 1) p r hi hj e
      omega)
    simp only [List.map_cons, foldP, putL]
    simp only [show ((6 : Int) = 5) = False by simp, if_false, Option.bind_some, h1]
    rw [ih]
    simp
/-- Keys in order, and descriptors alike. -/
def Alike (r is : List PR) : Prop := r.length = is.length ∧ ∀ (j : Nat) (p q : PR), r[j]? = some p → is[j]? = some q → p.k = q.k ∧ eqDD p.d q.d = true
theorem fold_propsL (o : Int) (was is : List PR) (hw : OnceP was) (hi : OnceP is) : ∃ r, foldP was (propsL o was is) = some r ∧ Alike r is := by
  unfold propsL
  generalize hst : stayT is was was.length = st
  have hk : ∀ (j : Nat) (p : PR), st[j]? = some p → ∃ q : PR, is[j]? = some q ∧ q.k = p.k := by subst hst; exact stayT_keys is was was.length
  have hlen : st.length ≤ is.length := by
    rcases Nat.eq_zero_or_pos st.length with h | h
    · omega
    · obtain ⟨q, hq, _⟩ := hk (st.length - 1) _ (List.getElem?_eq_getElem (by omega))
      have := (List.getElem?_eq_some_iff.1 hq).1
      omega
  have hs : OnceP st := by
    intro i j p q h1 h2 e
    obtain ⟨a, ha, hak⟩ := hk i p h1
    obtain ⟨b, hb, hbk⟩ := hk j q h2
    exact hi i j a b ha hb (hak.trans (e.trans hbk.symm))
  have g1 := fold_gone o is was hw was.length (Nat.le_refl _)
  rw [hst, List.drop_length, List.append_nil] at g1
  have g2 := fold_ch o is st hs hk st.length (Nat.le_refl _)
  have g3 := fold_new o (is.drop st.length) (midT is st st.length) (fun j q hq r hr e => by
    rw [List.getElem?_drop] at hq
    obtain ⟨i, hri⟩ := List.getElem?_of_mem hr
    have hil := (List.getElem?_eq_some_iff.1 hri).1
    rw [midT_len] at hil
    have hsi : st[i]? = some st[i] := List.getElem?_eq_getElem hil
    obtain ⟨a, ha, hak⟩ := hk i _ hsi
    have := hi i (st.length + j) a q ha hq (hak.trans ((midT_key hsi hri).symm.trans e))
    omega) (fun i j p q h1 h2 e => by
      rw [List.getElem?_drop] at h1 h2
      have := hi _ _ p q h1 h2 e
      omega)
  refine ⟨midT is st st.length ++ is.drop st.length, ?_, ?_, ?_⟩
  · rw [foldP_append, g1]
    simp only [Option.bind_some]
    rw [foldP_append, g2]
    simp only [Option.bind_some]
    exact g3
  · simp [midT_len]
    omega
  · intro j p q hp hq
    rcases Nat.lt_or_ge j st.length with h1 | h1
    · rw [List.getElem?_append_left (by rw [midT_len]; exact h1)] at hp
      have hsj : st[j]? = some st[j] := List.getElem?_eq_getElem h1
      obtain ⟨a, ha, hak⟩ := hk j _ hsj
      obtain rfl : a = q := Option.some.inj (ha.symm.trans hq)
      refine ⟨(midT_key hsj hp).trans hak.symm, ?_⟩
      rw [midT_get hsj, if_pos h1] at hp
      obtain rfl := Option.some.inj hp
      simp only [hq]
      cases hh : eqDD st[j].d a.d with
      | true => simpa using hh
      | false => simpa using eqD_selfN _
    · rw [List.getElem?_append_right (by rw [midT_len]; exact h1), midT_len, List.getElem?_drop] at hp
      have e : st.length + (j - st.length) = j := by omega
      rw [e] at hp
      obtain rfl : p = q := Option.some.inj (hp.symm.trans hq)
      exact ⟨rfl, eqD_selfN _⟩
theorem alikeP_same {r is : List PR} (h : Alike r is) : (decide (r.length = is.length) && samePs r is) = true := by
  rw [Bool.and_eq_true]
  refine ⟨by simpa using h.1, all_yes (fun j hj => ?_)⟩
  unfold sameAt
  split
  · rename_i p q hp hq
    obtain ⟨h1, h2⟩ := h.2 j p q hp hq
    simp [h1, h2]
  · rfl
theorem sameS_of {s t : SH} (h1 : s.c = t.c) (h2 : eqB s.p t.p = true) (h3 : s.x = t.x) (h4 : Alike s.ps t.ps) : sameS s t = true := by
  have := alikeP_same h4
  simp only [sameS, h1, h2, h3, this]
  simp
theorem propsL_wh (o : Int) (was is : List PR) : ∀ d ∈ propsL o was is, (d.wh = 5 ∨ d.wh = 6) ∧ d.o = o := by
  have hg : ∀ i, ∀ d ∈ goT o is was i, (d.wh = 5 ∨ d.wh = 6) ∧ d.o = o := by
    intro i
    induction i with
    | zero => intro d hd; simp [goT] at hd
    | succ i ih =>
      intro d hd
      unfold goT at hd
      split at hd
      · exact ih d hd
      · split at hd
        · exact ih d hd
        · rcases List.mem_append.1 hd with hd | hd
          · exact ih d hd
          · obtain rfl := List.mem_singleton.1 hd
            exact ⟨.inl rfl, rfl⟩
  have hc : ∀ st i, ∀ d ∈ chT o is st i, (d.wh = 5 ∨ d.wh = 6) ∧ d.o = o := by
    intro st i
    induction i with
    | zero => intro d hd; simp [chT] at hd
    | succ i ih =>
      intro d hd
      unfold chT at hd
      split at hd
      · split at hd
        · exact ih d hd
        · rcases List.mem_append.1 hd with hd | hd
          · exact ih d hd
          · obtain rfl := List.mem_singleton.1 hd
            exact ⟨.inr rfl, rfl⟩
      · exact ih d hd
  intro d hd
  unfold propsL at hd
  rcases List.mem_append.1 hd with hd | hd
  · exact hg _ d hd
  · rcases List.mem_append.1 hd with hd | hd
    · exact hc _ _ d hd
    · obtain ⟨p, _, rfl⟩ := List.mem_map.1 hd
      exact ⟨.inr rfl, rfl⟩
theorem chgL_wh (o : Int) (b a : SH) : ∀ d ∈ chgL o b a, d.o = o ∧ d.wh ≠ 1 := by
  intro d hd
  unfold chgL at hd
  rcases List.mem_append.1 hd with hd | hd
  · cases h : (a.c != b.c) <;> simp [h] at hd
    subst hd
    exact ⟨rfl, by simp [classL]⟩
  · rcases List.mem_append.1 hd with hd | hd
    · cases h : eqB b.p a.p <;> simp [h] at hd
      subst hd
      exact ⟨rfl, by simp [protoL]⟩
    · rcases List.mem_append.1 hd with hd | hd
      · cases h : (a.x != b.x) <;> simp [h] at hd
        subst hd
        exact ⟨rfl, by simp [extL]⟩
      · obtain ⟨h1, h2⟩ := propsL_wh o _ _ d hd
        exact ⟨h2, by rcases h1 with h1 | h1 <;> omega⟩
theorem fold_chg (o : Int) (b a : SH) (hb : OnceP b.ps) (ha : OnceP a.ps) : ∃ s, fold1 b (chgL o b a) = some s ∧ sameS s a = true := by
  obtain ⟨r, hr, hA⟩ := fold_propsL o b.ps a.ps hb ha
  have hp : ∀ s : SH, s.ps = b.ps → fold1 s (propsL o b.ps a.ps) = some { s with ps := r } := by
    intro s hs
    rw [fold_props _ s (fun d hd => (propsL_wh o _ _ d hd).1), hs, hr]
    rfl
  refine ⟨⟨a.c, if eqB b.p a.p then b.p else a.p, a.x, r⟩, ?_, ?_⟩
  · unfold chgL
    rw [fold1_append]
    have e1 : fold1 b (cond (a.c != b.c) [classL o a] []) = some { b with c := a.c } := by
      cases h : (a.c != b.c) with
      | true => simp [fold1, take1, classL]
      | false =>
        have : a.c = b.c := by simpa using h
        simp [fold1, this]
    rw [e1, Option.bind_some, fold1_append]
    have e2 : fold1 { b with c := a.c } (cond (eqB b.p a.p) [] [protoL o a]) = some { b with c := a.c, p := if eqB b.p a.p then b.p else a.p } := by
      cases h : eqB b.p a.p with
      | true => simp [fold1]
      | false => simp [fold1, take1, protoL]
    rw [e2, Option.bind_some, fold1_append]
    have e3 : fold1 { b with c := a.c, p := if eqB b.p a.p then b.p else a.p } (cond (a.x != b.x) [extL o a] []) = some { b with c := a.c, p := if eqB b.p a.p then b.p else a.p, x := a.x } := by
      cases h : (a.x != b.x) with
      | true => simp [fold1, take1, extL]
      | false =>
        have : a.x = b.x := by simpa using h
        simp [fold1, this]
    rw [e3, Option.bind_some]
    exact hp _ rfl
  · refine sameS_of rfl ?_ rfl hA
    show eqB (if eqB b.p a.p then b.p else a.p) a.p = true
    cases h : eqB b.p a.p with
    | true => simpa using h
    | false => simpa using eqB_self' _
theorem patch_made (i : Nat) (a : SH) (m : List SH) (hm : m.length = i) (ha : OnceP a.ps) : patchL m (madeL ((i : Int) + 1) a) = some (m ++ [a]) := by
  unfold madeL
  have e1 : takeL m (makeL ((i : Int) + 1) a) = some (m ++ [⟨a.c, a.p, a.x, []⟩]) := by
    unfold takeL
    rw [if_pos ⟨rfl, by rw [hm]; rfl⟩]
    rfl
  simp only [patchL, e1, Option.bind_some]
  rw [patch_one i _ _ ⟨a.c, a.p, a.x, []⟩ (fun d hd => by
    obtain ⟨p, _, rfl⟩ := List.mem_map.1 hd
    exact ⟨rfl, by simp [putL]⟩) (by simp [← hm])]
  rw [fold_props _ _ (fun d hd => by
    obtain ⟨p, _, rfl⟩ := List.mem_map.1 hd
    exact .inr rfl)]
  have := fold_new ((i : Int) + 1) a.ps [] (fun _ _ _ r hr => by cases hr) ha
  rw [this]
  simp [← hm]
theorem patch_diff (bs ns : List SH) (hl : ¬ ns.length < bs.length) (hb : dblA bs = false) (hn : dblA ns = false) :
    ∀ i, i ≤ ns.length → ∃ m, patchL bs (diffT bs ns i) = some m ∧ m.length = max i bs.length ∧ (∀ (j : Nat) (s t : SH), j < i → m[j]? = some s → ns[j]? = some t → sameS s t = true) ∧ (∀ j, i ≤ j → m[j]? = bs[j]?)
  | 0, _ => ⟨bs, rfl, by simp, (fun j _ _ hj => by omega), fun _ _ => rfl⟩
  | i + 1, hi => by
    have onceB : ∀ s ∈ bs, OnceP s.ps := fun s hs => once_of _ (by
      rw [dblA, List.any_eq_false] at hb
      simpa using hb s hs)
    have onceN : ∀ s ∈ ns, OnceP s.ps := fun s hs => once_of _ (by
      rw [dblA, List.any_eq_false] at hn
      simpa using hn s hs)
    obtain ⟨m, h1, h2, h3, h4⟩ := patch_diff bs ns hl hb hn i (by omega)
    have ha : ns[i]? = some ns[i] := List.getElem?_eq_getElem (by omega)
    cases hbi : bs[i]? with
    | some b =>
      have hil := (List.getElem?_eq_some_iff.1 hbi).1
      obtain ⟨s, hs, hss⟩ := fold_chg ((i : Int) + 1) b ns[i] (onceB b (List.mem_of_getElem? hbi)) (onceN _ (List.mem_of_getElem? ha))
      have hmi : m[i]? = some b := (h4 i (Nat.le_refl _)).trans hbi
      refine ⟨m.set i s, ?_, by rw [List.length_set]; omega, fun j u t hj hu ht => ?_, fun j hj => ?_⟩
      · rw [diffT_chg ha hbi, patchL_append, h1, Option.bind_some, patch_one i _ m b (chgL_wh _ _ _) hmi, hs]
        rfl
      · rw [List.getElem?_set] at hu
        split at hu
        · rename_i e
          subst e
          rw [if_pos (by omega)] at hu
          obtain rfl := Option.some.inj hu
          obtain rfl := Option.some.inj (ha.symm.trans ht)
          exact hss
        · exact h3 j u t (by omega) hu ht
      · rw [List.getElem?_set_ne (by omega)]
        exact h4 j (by omega)
    | none =>
      have hil : bs.length ≤ i := List.getElem?_eq_none_iff.1 hbi
      have hml : m.length = i := by omega
      refine ⟨m ++ [ns[i]], ?_, by simp; omega, fun j u t hj hu ht => ?_, fun j hj => ?_⟩
      · rw [diffT_made ha hbi, patchL_append, h1, Option.bind_some, patch_made i _ m hml (onceN _ (List.mem_of_getElem? ha))]
      · rcases Nat.lt_or_ge j i with h5 | h5
        · rw [List.getElem?_append_left (by omega)] at hu
          exact h3 j u t h5 hu ht
        · obtain rfl : j = i := by omega
          rw [List.getElem?_append_right (by omega), hml, Nat.sub_self] at hu
          obtain rfl := Option.some.inj hu
          obtain rfl := Option.some.inj (ha.symm.trans ht)
          exact sameS_of rfl (eqB_self' _) rfl ⟨rfl, fun j p q hp hq => by
            obtain rfl := Option.some.inj (hp.symm.trans hq)
            exact ⟨rfl, eqD_selfN _⟩⟩
      · rw [List.getElem?_eq_none (by simp; omega), List.getElem?_eq_none (by omega)]
/-- A moment patched by what makes another one of it is that. -/
theorem patch_back (bs ns : List SH) (hl : ¬ ns.length < bs.length) (hb : dblA bs = false) (hn : dblA ns = false) : ∃ m, patchL bs (diffT bs ns ns.length) = some m ∧ sameL m ns = true := by
  obtain ⟨m, h1, h2, h3, h4⟩ := patch_diff bs ns hl hb hn ns.length (Nat.le_refl _)
  refine ⟨m, h1, ?_⟩
  have h5 : m.length = ns.length := by omega
  rw [sameL, Bool.and_eq_true]
  refine ⟨by simpa using h5, all_yes (fun j hj => ?_)⟩
  unfold sameLAt
  split
  · rename_i p q hp hq
    exact h3 j p q (by omega) hp hq
  · rfl
end Go.Proofs.YtcflglloopgieaaGreatDoor
