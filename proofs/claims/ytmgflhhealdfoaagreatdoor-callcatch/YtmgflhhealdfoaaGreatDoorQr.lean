import Derived.Test.YtmgflhhealdfoaaGreatDoorQq
set_option linter.all false
namespace Go.Proofs.YtmgflhhealdfoaaGreatDoor
section
open Go Go.Proofs Go.RowKit FM
theorem th_of_good {v : VV} (h : v.good = true) : thV v = true ∧ (v.k != 0) = true := by
  have hk : (v.k != 0) = true := by
    obtain ⟨k, b, x, s, i⟩ := v
    rcases good_cases h with ⟨rfl, _⟩ | ⟨rfl, _⟩ | ⟨rfl, _⟩ | ⟨rfl, _⟩ | ⟨rfl, _⟩ | ⟨rfl, _⟩ | ⟨rfl, _⟩ <;> rfl
  refine ⟨?_, hk⟩
  unfold thV
  have : (v.k == 0) = false := by simpa using hk
  rw [this]
  rfl
theorem k_of_none {v : VV} (h : thV v = false) : (v.k != 0) = false := by
  unfold thV at h
  simp only [Bool.not_eq_false', Bool.and_eq_true] at h
  have := h.1.1.1.1
  simpa using this
theorem th_of_k {v : VV} (h : (v.k != 0) = true) : thV v = true := by
  cases ht : thV v
  · rw [k_of_none ht] at h
    exact absurd h (by decide)
  · rfl
/-- A value's field: well formed, or absent. -/
theorem fieldV (v : VV) (h : (!thV v || v.good) = true) : (v.k != 0) = thV v := by
  cases ht : thV v
  · exact k_of_none ht
  · rw [ht] at h
    exact (th_of_good (by simpa using h)).2
theorem fieldG (v : VV) : callV v = (!thV v || slotV v) ∧ (callV v = true → (v.k != 0) = thV v) := by
  unfold callV slotV
  by_cases h17 : (v.k == 1 || v.k == 7) = true
  · rw [if_pos h17, h17, Bool.and_true]
    have hk : (v.k != 0) = true := by
      simp at h17 ⊢
      omega
    rw [th_of_k hk]
    exact ⟨rfl, fun _ => hk⟩
  · rw [if_neg h17]
    have h17' : (v.k == 1 || v.k == 7) = false := by simpa using h17
    rw [h17', Bool.and_false, Bool.or_false]
    refine ⟨rfl, fun h => ?_⟩
    have ht : thV v = false := by simpa using h
    rw [ht]
    exact k_of_none ht
/-- What the reference holds for well formed. -/
theorem rgood_sound (d : DD) : rgoodV d = (soundV d && !((thV d.v || d.w != 0) && (thV d.g || thV d.s))) := by
  unfold rgoodV soundV
  obtain ⟨g1, g2⟩ := fieldG d.g
  obtain ⟨s1, s2⟩ := fieldG d.s
  have hv := fieldV d.v
  have eg : (thV d.g && !slotV d.g) = !callV d.g := by rw [g1]; cases thV d.g <;> cases slotV d.g <;> rfl
  have es : (thV d.s && !slotV d.s) = !callV d.s := by rw [s1]; cases thV d.s <;> cases slotV d.s <;> rfl
  have ev : (thV d.v && !d.v.good) = !(!thV d.v || d.v.good) := by cases thV d.v <;> cases d.v.good <;> rfl
  rw [eg, es, ev]
  generalize (!thV d.v || d.v.good) = hh at *
  generalize callV d.g = cg at *
  generalize callV d.s = cs at *
  clear g1 s1 eg es ev
  cases hh
  · simp
  · cases cg
    · simp
    · cases cs
      · simp
      · rw [hv rfl, g2 rfl, s2 rfl]
        generalize triV d.w = ta
        generalize triV d.e = te
        generalize triV d.c = tc
        cases ta <;> cases te <;> cases tc <;> simp
theorem sound_keys {d : DD} (h : soundV d = true) : (d.v.k != 0) = thV d.v ∧ (d.g.k != 0) = thV d.g ∧ (d.s.k != 0) = thV d.s := by
  unfold soundV at h
  simp only [Bool.and_eq_true] at h
  exact ⟨fieldV d.v h.1.1.1.1.1, (fieldG d.g).2 h.1.1.1.1.2, (fieldG d.s).2 h.1.1.1.2⟩
theorem fourD (d : DD) : (rgoodV d = (kindV d != 0) ∧ raccV d = (kindV d == 3) ∧ rdatV d = (kindV d == 2) ∧ rgenV d = (kindV d == 1)) ∧ rwhoV d = wholeV d := by
  have hg := rgood_sound d
  unfold rgenV raccV rdatV rwhoV wholeV kindV shapeV
  rw [hg]
  cases hs : soundV d
  · simp
  · obtain ⟨e1, e2, e3⟩ := sound_keys hs
    rw [e1, e2, e3]
    have ee : (d.e == 0) = !(d.e != 0) := (Bool.not_not _).symm
    have ec : (d.c == 0) = !(d.c != 0) := (Bool.not_not _).symm
    rw [ee, ec]
    generalize thV d.v = tv
    generalize thV d.g = tg
    generalize thV d.s = ts
    generalize (d.w != 0) = qa
    generalize (d.e != 0) = qe
    generalize (d.c != 0) = qc
    cases tv <;> cases qa <;> cases tg <;> cases ts <;> cases qe <;> cases qc <;> decide
theorem whole_kind {d : DD} (h : wholeV d = true) : ¬ kindV d = 0 := by
  intro hk
  unfold wholeV at h
  rw [hk] at h
  simp at h
theorem eqB_self (v : VV) : eqB v v = true := by
  unfold eqB
  simp
