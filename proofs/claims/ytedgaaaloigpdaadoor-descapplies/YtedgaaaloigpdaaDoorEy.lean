import Derived.Test.YtedgaaaloigpdaaDoorEd
namespace Go.Proofs.YtedgaaaloigpdaaDoor
open Go Go.Proofs Go.RowKit FM
set_option linter.unusedSimpArgs false
set_option linter.unusedVariables false
theorem zero_no (n : DD) : rzeroV n = noV n := by
  unfold rzeroV noV shapeV
  have ee : (n.e == 0) = !(n.e != 0) := (Bool.not_not _).symm
  have ec : (n.c == 0) = !(n.c != 0) := (Bool.not_not _).symm
  have ew : (n.w == 0) = !(n.w != 0) := (Bool.not_not _).symm
  rw [ee, ec, ew]
  generalize thV n.v = tv
  generalize thV n.g = tg
  generalize thV n.s = ts
  generalize (n.w != 0) = qa
  generalize (n.e != 0) = qe
  generalize (n.c != 0) = qc
  cases tv <;> cases qa <;> cases tg <;> cases ts <;> cases qe <;> cases qc <;> decide
theorem none_zero {v : VV} (h : thV v = false) : v = zeroV := by
  unfold thV at h
  simp only [Bool.not_eq_false', Bool.and_eq_true, beq_iff_eq, Bool.not_eq_true'] at h
  obtain ⟨k, b, x, s, i⟩ := v
  obtain ⟨⟨⟨⟨rfl, rfl⟩, rfl⟩, hs⟩, rfl⟩ := h
  have := empty_of hs
  subst this
  rfl
theorem no_zero {n : DD} (h : noV n = true) : n = zeroD := by
  rw [← zero_no] at h
  unfold rzeroV at h
  simp only [Bool.and_eq_true, Bool.not_eq_true', beq_iff_eq] at h
  obtain ⟨v, g, s, a, e, c⟩ := n
  obtain ⟨⟨⟨⟨⟨h1, h2⟩, h3⟩, h4⟩, h5⟩, h6⟩ := h
  have e1 := none_zero h1
  have e2 := none_zero h2
  have e3 := none_zero h3
  dsimp only at e1 e2 e3 h4 h5 h6
  subst e1 e2 e3 h4 h5 h6
  rfl
theorem alike_symm (a b : VV) : alikeV sameV a b = alikeV sameV b a := by
  unfold alikeV
  by_cases hk : a.k = b.k
  · rw [hk]
    by_cases h4 : b.k = 4
    · rw [if_pos h4, if_pos h4]
      unfold sameV
      rw [Bool.and_comm (isN a.x), show decide (a.x = b.x) = decide (b.x = a.x) from decide_eq_decide.2 eq_comm]
    · rw [if_neg h4, if_neg h4, Bool.beq_comm (a := a.b), show (a.s.toList == b.s.toList) = (b.s.toList == a.s.toList) from Bool.beq_comm, show (a.i == b.i) = (b.i == a.i) from Bool.beq_comm]
  · have h1 : (a.k == b.k) = false := by simp [hk]
    have h2 : (b.k == a.k) = false := by simp [Ne.symm hk]
    rw [h1, h2]
    rfl
/-- A field that is as it must be: absent, or well formed. -/
def okF (v : VV) : Prop := (v.k != 0) = thV v ∧ (thV v = true → v.good = true)
theorem okV {d : DD} (h : soundV d = true) : okF d.v := by
  have hk := (sound_keys h).1
  unfold soundV at h
  simp only [Bool.and_eq_true, Bool.or_eq_true, Bool.not_eq_true'] at h
  refine ⟨hk, fun ht => ?_⟩
  rcases h.1.1.1.1.1 with h | h
  · rw [ht] at h
    exact absurd h (by decide)
  · exact h
theorem okC {v : VV} (h : callV v = true) : okF v := by
  refine ⟨(fieldG v).2 h, fun ht => ?_⟩
  rw [(fieldG v).1, ht] at h
  unfold slotV at h
  simp at h
  exact h.1
theorem okG {d : DD} (h : soundV d = true) : okF d.g := by
  unfold soundV at h
  simp only [Bool.and_eq_true] at h
  exact okC h.1.1.1.1.2
theorem okS {d : DD} (h : soundV d = true) : okF d.s := by
  unfold soundV at h
  simp only [Bool.and_eq_true] at h
  exact okC h.1.1.1.2
theorem sam_symm (a b : VV) : samV a b = samV b a := by
  unfold samV
  rw [alike_symm, Bool.and_comm a.good]
  cases thV a <;> cases thV b <;> rfl
theorem whole_23 {d : DD} (h : wholeV d = true) : kindV d = 2 ∨ kindV d = 3 := by
  rcases kind_cases d with hk | hk | hk | hk
  · exact absurd hk (whole_kind h)
  · unfold wholeV at h
    rw [hk] at h
    simp at h
  · exact Or.inl hk
  · exact Or.inr hk
theorem tri_or {t a : Int} (h1 : triV t = true) (h2 : triV a = true) : triV (orT t a) = true := by
  unfold orT
  cases (t != 0)
  · exact h2
  · exact h1
theorem st_whole {n : DD} (hs : stV n = true) (hz : noV n = false) : wholeV n = true := by
  unfold stV at hs
  rw [hz] at hs
  simpa using hs
/-- What is said of a descriptor, in signs. -/
theorem whole_iff (a : DD) : wholeV a = true ↔ soundV a = true ∧ (a.e != 0) = true ∧ (a.c != 0) = true ∧ ((thV a.v = true ∧ (a.w != 0) = true ∧ thV a.g = false ∧ thV a.s = false) ∨ (thV a.g = true ∧ thV a.s = true ∧ thV a.v = false ∧ (a.w != 0) = false)) := by
  unfold wholeV kindV shapeV
  generalize soundV a = sd
  generalize thV a.v = tv
  generalize thV a.g = tg
  generalize thV a.s = ts
  generalize (a.w != 0) = qa
  generalize (a.e != 0) = qe
  generalize (a.c != 0) = qc
  cases sd <;> cases tv <;> cases qa <;> cases tg <;> cases ts <;> cases qe <;> cases qc <;> decide
theorem kind_iff (d : DD) : ¬ kindV d = 0 ↔ soundV d = true ∧ (((thV d.v || d.w != 0) && (thV d.g || thV d.s)) = false) := by
  unfold kindV shapeV
  generalize soundV d = sd
  generalize thV d.v = tv
  generalize thV d.g = tg
  generalize thV d.s = ts
  generalize (d.w != 0) = qa
  cases sd <;> cases tv <;> cases qa <;> cases tg <;> cases ts <;> decide
/-- a has each field that d asks for, and is whole. -/
structure Took (a d : DD) : Prop where
  whole : wholeV a = true
  turn : turnV a d = false
  v : thV d.v = true → a.v = d.v
  g : thV d.g = true → a.g = d.g
  s : thV d.s = true → a.s = d.s
  w : (d.w != 0) = true → a.w = d.w
  e : (d.e != 0) = true → a.e = d.e
  c : (d.c != 0) = true → a.c = d.c
theorem orV_th {v a : VV} (h : thV v = true) : orV v a = v := by unfold orV; rw [h]; rfl
theorem orV_no {v a : VV} (h : thV v = false) : orV v a = a := by unfold orV; rw [h]; rfl
theorem orT_th {v a : Int} (h : (v != 0) = true) : orT v a = v := by unfold orT; rw [h]; rfl
theorem orT_no {v a : Int} (h : (v != 0) = false) : orT v a = a := by unfold orT; rw [h]; rfl
theorem und_facts : thV undV = true ∧ undV.good = true ∧ callV undV = true := ⟨by kernel_rfl, by kernel_rfl, by kernel_rfl⟩
theorem zero_th : thV zeroV = false := by kernel_rfl
theorem thV_or (v a : VV) : thV (orV v a) = (thV v || thV a) := by
  cases h : thV v
  · rw [orV_no h]; rfl
  · rw [orV_th h, h]; rfl
theorem neT_or (v a : Int) : (orT v a != 0) = (v != 0 || a != 0) := by
  cases h : (v != 0)
  · rw [orT_no h]; rfl
  · rw [orT_th h, h]; rfl
theorem goodF_or {v a : VV} (h1 : (!thV v || v.good) = true) (h2 : (!thV a || a.good) = true) : (!thV (orV v a) || (orV v a).good) = true := by
  cases h : thV v
  · rw [orV_no h]; exact h2
  · rw [orV_th h]; exact h1
theorem call_or {v a : VV} (h1 : callV v = true) (h2 : callV a = true) : callV (orV v a) = true := by
  cases h : thV v
  · rw [orV_no h]; exact h2
  · rw [orV_th h]; exact h1
theorem sound_parts {d : DD} (h : soundV d = true) : (!thV d.v || d.v.good) = true ∧ callV d.g = true ∧ callV d.s = true ∧ triV d.w = true ∧ triV d.e = true ∧ triV d.c = true := by
  unfold soundV at h
  simp only [Bool.and_eq_true] at h
  exact ⟨h.1.1.1.1.1, h.1.1.1.1.2, h.1.1.1.2, h.1.1.2, h.1.2, h.2⟩
theorem sound_mk {d : DD} (h1 : (!thV d.v || d.v.good) = true) (h2 : callV d.g = true) (h3 : callV d.s = true) (h4 : triV d.w = true) (h5 : triV d.e = true) (h6 : triV d.c = true) : soundV d = true := by
  unfold soundV
  rw [h1, h2, h3, h4, h5, h6]
  rfl
theorem call_good {v : VV} (h : callV v = true) (ht : thV v = true) : v.good = true := (okC h).2 ht
/-- The shape of a descriptor, by its fields. -/
theorem turn_of {a d : DD} (hd : ((thV d.v || d.w != 0) && (thV d.g || thV d.s)) = false) (h1 : (thV d.v || d.w != 0) = true → (thV a.v || a.w != 0) = true ∧ (thV a.g || thV a.s) = false) (h2 : (thV d.g || thV d.s) = true → (thV a.g || thV a.s) = true ∧ (thV a.v || a.w != 0) = false) : turnV a d = false := by
  unfold turnV shapeV
  generalize (thV d.v || d.w != 0) = p at *
  generalize (thV d.g || thV d.s) = q at *
  generalize (thV a.v || a.w != 0) = r at *
  generalize (thV a.g || thV a.s) = t at *
  revert hd h1 h2
  cases p <;> cases q <;> cases r <;> cases t <;> decide
theorem took_fill {d : DD} (h : ¬ kindV d = 0) : Took (fillV d) d := by
  obtain ⟨hs, hk⟩ := (kind_iff d).1 h
  obtain ⟨p1, p2, p3, p4, p5, p6⟩ := sound_parts hs
  have e1 : (orT d.e 1 != 0) = true := by rw [neT_or]; cases (d.e != 0) <;> rfl
  have e2 : (orT d.c 1 != 0) = true := by rw [neT_or]; cases (d.c != 0) <;> rfl
  have e3 : (orT d.w 1 != 0) = true := by rw [neT_or]; cases (d.w != 0) <;> rfl
  have u1 : ∀ v, thV (orV v undV) = true := fun v => by rw [thV_or, und_facts.1, Bool.or_true]
  have gt : ((thV d.g || thV d.s) = true ∧ (thV d.v || d.w != 0) = false ∧ fillV d = ⟨d.v, orV d.g undV, orV d.s undV, d.w, orT d.e 1, orT d.c 1⟩) ∨ ((thV d.g || thV d.s) = false ∧ fillV d = ⟨orV d.v undV, d.g, d.s, orT d.w 1, orT d.e 1, orT d.c 1⟩) := by
    unfold fillV shapeV
    generalize (thV d.v || d.w != 0) = p at *
    generalize (thV d.g || thV d.s) = q at *
    cases p <;> cases q
    · exact Or.inr ⟨rfl, rfl⟩
    · exact Or.inl ⟨rfl, rfl, rfl⟩
    · exact Or.inr ⟨rfl, rfl⟩
    · exact absurd hk (by decide)
  rcases gt with ⟨g1, g2, g3⟩ | ⟨g1, g3⟩
  · have g2' := g2
    rw [Bool.or_eq_false_iff] at g2'
    rw [g3]
    refine ⟨(whole_iff _).2 ⟨sound_mk p1 (call_or p2 und_facts.2.2) (call_or p3 und_facts.2.2) p4 (tri_or p5 (by decide)) (tri_or p6 (by decide)), e1, e2, Or.inr ⟨u1 _, u1 _, g2'.1, g2'.2⟩⟩, turn_of hk ?_ ?_, fun _ => rfl, fun k => orV_th k, fun k => orV_th k, fun _ => rfl, fun k => orT_th k, fun k => orT_th k⟩
    · intro k
      rw [g2] at k
      exact absurd k (by decide)
    · intro _
      refine ⟨?_, g2⟩
      show (thV (orV d.g undV) || thV (orV d.s undV)) = true
      rw [u1]
      rfl
  · have g1' := g1
    rw [Bool.or_eq_false_iff] at g1'
    rw [g3]
    refine ⟨(whole_iff _).2 ⟨sound_mk (goodF_or p1 (by rw [und_facts.2.1]; exact Bool.or_true _)) p2 p3 (tri_or p4 (by decide)) (tri_or p5 (by decide)) (tri_or p6 (by decide)), e1, e2, Or.inl ⟨u1 _, e3, g1'.1, g1'.2⟩⟩, turn_of hk ?_ ?_, fun k => orV_th k, fun _ => rfl, fun _ => rfl, fun k => orT_th k, fun k => orT_th k, fun k => orT_th k⟩
    · intro _
      refine ⟨?_, g1⟩
      show (thV (orV d.v undV) || (orT d.w 1 != 0)) = true
      rw [u1]
      rfl
    · intro k
      rw [g1] at k
      exact absurd k (by decide)
theorem tri_ne {t a : Int} (h : (a != 0) = true) : (orT t a != 0) = true := by rw [neT_or, h, Bool.or_true]
theorem took_bec {n d : DD} (hn : wholeV n = true) (h : ¬ kindV d = 0) : Took (becV n d) d := by
  obtain ⟨hs, hk⟩ := (kind_iff d).1 h
  obtain ⟨p1, p2, p3, p4, p5, p6⟩ := sound_parts hs
  obtain ⟨ns, ne, nc, nn⟩ := (whole_iff n).1 hn
  obtain ⟨q1, q2, q3, q4, q5, q6⟩ := sound_parts ns
  cases ht : turnV n d
  · have hb : becV n d = ⟨orV d.v n.v, orV d.g n.g, orV d.s n.s, orT d.w n.w, orT d.e n.e, orT d.c n.c⟩ := by
      unfold becV
      rw [ht]
      rfl
    have sh : ((thV d.v || d.w != 0) = true → thV n.v = true ∧ (n.w != 0) = true ∧ thV n.g = false ∧ thV n.s = false) ∧ ((thV d.g || thV d.s) = true → thV n.g = true ∧ thV n.s = true ∧ thV n.v = false ∧ (n.w != 0) = false) := by
      unfold turnV shapeV at ht
      generalize (thV d.v || d.w != 0) = p at *
      generalize (thV d.g || thV d.s) = q at *
      rcases nn with ⟨n1, n2, n3, n4⟩ | ⟨n1, n2, n3, n4⟩
      · rw [n1, n2, n3, n4] at ht ⊢
        revert ht hk
        cases p <;> cases q <;> decide
      · rw [n1, n2, n3, n4] at ht ⊢
        revert ht hk
        cases p <;> cases q <;> decide
    have hw : wholeV (becV n d) = true := by
      rw [hb]
      refine (whole_iff _).2 ⟨sound_mk (goodF_or p1 q1) (call_or p2 q2) (call_or p3 q3) (tri_or p4 q4) (tri_or p5 q5) (tri_or p6 q6), tri_ne ne, tri_ne nc, ?_⟩
      show (thV (orV d.v n.v) = true ∧ (orT d.w n.w != 0) = true ∧ thV (orV d.g n.g) = false ∧ thV (orV d.s n.s) = false) ∨ (thV (orV d.g n.g) = true ∧ thV (orV d.s n.s) = true ∧ thV (orV d.v n.v) = false ∧ (orT d.w n.w != 0) = false)
      rw [thV_or, thV_or, thV_or, neT_or]
      revert sh nn
      generalize thV d.v = a1
      generalize (d.w != 0) = a2
      generalize thV d.g = a3
      generalize thV d.s = a4
      generalize thV n.v = b1
      generalize (n.w != 0) = b2
      generalize thV n.g = b3
      generalize thV n.s = b4
      cases a1 <;> cases a2 <;> cases a3 <;> cases a4 <;> cases b1 <;> cases b2 <;> cases b3 <;> cases b4 <;> decide
    refine ⟨hw, ?_, ?_, ?_, ?_, ?_, ?_, ?_⟩
    · obtain ⟨-, -, -, ww⟩ := (whole_iff _).1 hw
      refine turn_of hk ?_ ?_
      · intro k
        obtain ⟨k1, k2, k3, k4⟩ := sh.1 k
        rw [hb]
        show (thV (orV d.v n.v) || (orT d.w n.w != 0)) = true ∧ (thV (orV d.g n.g) || thV (orV d.s n.s)) = false
        rw [thV_or, thV_or, thV_or, k1, k3, k4]
        rw [k] at hk
        revert hk
        generalize thV d.g = a3
        generalize thV d.s = a4
        cases a3 <;> cases a4 <;> simp
      · intro k
        obtain ⟨k1, k2, k3, k4⟩ := sh.2 k
        rw [hb]
        show (thV (orV d.g n.g) || thV (orV d.s n.s)) = true ∧ (thV (orV d.v n.v) || (orT d.w n.w != 0)) = false
        rw [thV_or, thV_or, thV_or, neT_or, k1, k3, k4]
        rw [k] at hk
        revert hk
        generalize thV d.v = a3
        generalize (d.w != 0) = a4
        cases a3 <;> cases a4 <;> simp
    · intro k; rw [hb]; exact orV_th k
    · intro k; rw [hb]; exact orV_th k
    · intro k; rw [hb]; exact orV_th k
    · intro k; rw [hb]; exact orT_th k
    · intro k; rw [hb]; exact orT_th k
    · intro k; rw [hb]; exact orT_th k
  · have hb : becV n d = fillV ⟨d.v, d.g, d.s, d.w, orT d.e n.e, orT d.c n.c⟩ := by
      unfold becV
      rw [ht]
      rfl
    have hk2 : ¬ kindV ⟨d.v, d.g, d.s, d.w, orT d.e n.e, orT d.c n.c⟩ = 0 := (kind_iff _).2 ⟨sound_mk p1 p2 p3 p4 (tri_or p5 q5) (tri_or p6 q6), hk⟩
    have T := took_fill hk2
    rw [← hb] at T
    exact ⟨T.whole, T.turn, T.v, T.g, T.s, T.w, fun k => (T.e (by show (orT d.e n.e != 0) = true; rw [orT_th k]; exact k)).trans (orT_th k), fun k => (T.c (by show (orT d.c n.c != 0) = true; rw [orT_th k]; exact k)).trans (orT_th k)⟩
theorem same_refl (x : Nat) : sameV x x = true := by unfold sameV; simp
theorem alike_refl (v : VV) : alikeV sameV v v = true := by
  unfold alikeV
  rw [same_refl]
  simp
theorem sam_refl {v : VV} (h : okF v) : samV v v = true := by
  unfold samV
  cases ht : thV v
  · rfl
  · rw [h.2 ht, alike_refl]
    rfl
theorem same_trans {x y z : Nat} (h1 : sameV x y = true) (h2 : sameV y z = true) : sameV x z = true := by
  unfold sameV at *
  simp only [Bool.or_eq_true, Bool.and_eq_true, decide_eq_true_eq] at *
  rcases h1 with ⟨a, b⟩ | rfl
  · rcases h2 with ⟨c, d⟩ | rfl
    · exact Or.inl ⟨a, d⟩
    · exact Or.inl ⟨a, b⟩
  · exact h2
theorem alike_trans {a b c : VV} (h1 : alikeV sameV a b = true) (h2 : alikeV sameV b c = true) : alikeV sameV a c = true := by
  unfold alikeV at *
  simp only [Bool.and_eq_true, beq_iff_eq] at h1 h2 ⊢
  obtain ⟨k1, r1⟩ := h1
  obtain ⟨k2, r2⟩ := h2
  refine ⟨k1.trans k2, ?_⟩
  by_cases h4 : a.k = 4
  · rw [if_pos h4] at r1 ⊢
    rw [if_pos (k1 ▸ h4)] at r2
    exact same_trans r1 r2
  · rw [if_neg h4] at r1 ⊢
    rw [if_neg (k1 ▸ h4)] at r2
    simp only [Bool.and_eq_true, beq_iff_eq] at r1 r2 ⊢
    exact ⟨⟨r1.1.1.trans r2.1.1, r1.1.2.trans r2.1.2⟩, r1.2.trans r2.2⟩
theorem sam_trans {a b c : VV} (h1 : samV a b = true) (h2 : samV b c = true) : samV a c = true := by
  unfold samV at *
  cases ha : thV a <;> cases hb : thV b <;> cases hc : thV c <;> rw [ha, hb] at h1 <;> rw [hb, hc] at h2 <;> simp at h1 h2 ⊢
  exact ⟨⟨h1.1.1, h2.1.2⟩, alike_trans h1.2 h2.2⟩
/-- What d asks for is what a has: d changes a no more. -/
theorem took_again {a d : DD} (x : Bool) (h : ¬ kindV d = 0) (T : Took a d) : appD x a d = a ∧ appB x a d = true ∧ appE a d = 0 := by
  obtain ⟨hs, hk⟩ := (kind_iff d).1 h
  obtain ⟨p1, p2, p3, p4, p5, p6⟩ := sound_parts hs
  have hbec : becV a d = a := by
    unfold becV
    rw [T.turn]
    have e : ∀ (v u : VV), (thV v = true → u = v) → orV v u = u := fun v u k => by
      cases hv : thV v
      · exact orV_no hv
      · rw [orV_th hv, k hv]
    have f : ∀ (v u : Int), ((v != 0) = true → u = v) → orT v u = u := fun v u k => by
      cases hv : (v != 0)
      · exact orT_no hv
      · rw [orT_th hv, k hv]
    rw [e _ _ T.v, e _ _ T.g, e _ _ T.s, f _ _ T.w, f _ _ T.e, f _ _ T.c]
    rfl
  have hst : stV a = true := by unfold stV; rw [T.whole, Bool.or_true]
  have hno : noV a = false := by
    obtain ⟨-, he, -, -⟩ := (whole_iff a).1 T.whole
    unfold noV
    rw [he]
    simp
  have dif : ∀ (v u : VV), okF v → (thV v = true → u = v) → difV u v = false := fun v u o k => by
    unfold difV
    cases hv : thV v
    · rfl
    · rw [k hv, sam_refl o]
      rfl
  have hf : (a.c == 1 && forbV a d) = false := by
    cases hc : (a.c == 1)
    · rfl
    · have hc1 : a.c = 1 := by simpa using hc
      have c2 : (d.c == 2) = false := by
        cases h2 : (d.c == 2)
        · rfl
        · have : d.c = 2 := by simpa using h2
          have := T.c (by rw [this]; rfl)
          omega
      have e2 : (d.e != 0 && d.e != a.e) = false := by
        cases h2 : (d.e != 0)
        · rfl
        · rw [T.e h2]
          simp
      unfold forbV
      rw [c2, e2, T.turn, dif _ _ (okG hs) T.g, dif _ _ (okS hs) T.s, dif _ _ (okV hs) T.v]
      by_cases h3 : shapeV a = 3
      · simp [h3]
      · simp only [h3, Bool.or_false, Bool.or_self, Bool.false_eq_true, if_false, beq_iff_eq, Bool.true_and]
        cases h2 : (d.w == 2)
        · simp
        · have d2 : d.w = 2 := by simpa using h2
          have := T.w (by rw [d2]; rfl)
          rw [this, d2]
          decide
  have hk0 : (kindV d == 0) = false := by simp [h]
  unfold appD appB appE
  rw [hst, hno, hf, hbec, hk0]
  exact ⟨rfl, rfl, rfl⟩
theorem app_took {x : Bool} {n d : DD} (h : appB x n d = true) : ¬ kindV d = 0 ∧ Took (appD x n d) d ∧ appE n d = 0 := by
  unfold appB at h
  by_cases hk : kindV d = 0
  · simp [hk] at h
  · have hk0 : (kindV d == 0) = false := by simp [hk]
    rw [hk0] at h
    cases hst : stV n
    · rw [hst] at h
      simp at h
    · rw [hst] at h
      refine ⟨hk, ?_, by unfold appE; rw [hk0, hst]; rfl⟩
      unfold appD
      rw [hk0, hst]
      cases hno : noV n
      · rw [hno] at h
        simp only [Bool.not_true, Bool.or_self, Bool.false_eq_true, if_false] at h ⊢
        have hf : (n.c == 1 && forbV n d) = false := by
          cases hq : (n.c == 1 && forbV n d)
          · rfl
          · rw [hq] at h
            exact absurd h (by decide)
        rw [hf]
        simp only [Bool.false_eq_true, if_false]
        exact took_bec (st_whole hst hno) hk
      · rw [hno] at h
        simp only [Bool.not_true, Bool.or_self, Bool.false_eq_true, if_false, if_true] at h ⊢
        rw [h]
        exact took_fill hk
theorem app_err {x : Bool} {n d : DD} (h : ¬ appE n d = 0) : appE n d = 5 ∧ appB x n d = false ∧ appD x n d = zeroD := by
  unfold appE appB appD at *
  cases hq : (kindV d == 0 || !stV n)
  · rw [hq] at h
    exact absurd rfl h
  · exact ⟨rfl, rfl, rfl⟩
theorem app_not {x : Bool} {n d : DD} (h : appE n d = 0) (hb : appB x n d = false) : appD x n d = n := by
  unfold appE appB appD at *
  cases hq : (kindV d == 0 || !stV n)
  · rw [hq] at hb
    simp only [Bool.false_eq_true, if_false] at hb ⊢
    cases hno : noV n
    · rw [hno] at hb
      simp only [Bool.false_eq_true, if_false, Bool.not_eq_false'] at hb ⊢
      rw [hb]
      rfl
    · rw [hno] at hb
      simp only [if_true] at hb ⊢
      rw [hb]
      simp only [Bool.false_eq_true, if_false]
      exact (no_zero hno).symm
  · rw [hq] at h
    exact absurd h (by decide)

theorem fd_or {v a : VV} (h1 : v.x < 2 ^ 64) (h2 : a.x < 2 ^ 64) : (orV v a).x < 2 ^ 64 := by
  unfold orV
  split
  · exact h1
  · exact h2
theorem fd_fill {d : DD} (h : FD d) : FD (fillV d) := by
  unfold fillV
  split
  · exact ⟨h.1, fd_or h.2.1 (by decide), fd_or h.2.2 (by decide)⟩
  · exact ⟨fd_or h.1 (by decide), h.2.1, h.2.2⟩
theorem fd_app (x : Bool) {n d : DD} (hn : FD n) (hd : FD d) : FD (appD x n d) := by
  have hz : FD zeroD := by unfold FD; decide
  unfold appD
  split
  · exact hz
  · split
    · split
      · exact fd_fill hd
      · exact hz
    · split
      · exact hn
      · unfold becV
        split
        · exact fd_fill hd
        · exact ⟨fd_or hd.1 hn.1, fd_or hd.2.1 hn.2.1, fd_or hd.2.2 hn.2.2⟩
end Go.Proofs.YtedgaaaloigpdaaDoor
