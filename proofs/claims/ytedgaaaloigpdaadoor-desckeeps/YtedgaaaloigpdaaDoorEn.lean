import Derived.Test.YtedgaaaloigpdaaDoorEy
import Derived.Test.YtedgaaaloigpdaaDoorEf
namespace Go.Proofs.YtedgaaaloigpdaaDoor
open Go Go.Proofs Go.RowKit FM
set_option linter.unusedSimpArgs false
set_option linter.unusedVariables false
theorem tri_12 {t : Int} (h : triV t = true) (h0 : (t != 0) = true) : t = 1 ∨ t = 2 := by
  unfold triV at h
  simp at h h0
  omega
theorem whole_st {a : DD} (h : wholeV a = true) : stV a = true ∧ noV a = false := by
  refine ⟨by unfold stV; rw [h, Bool.or_true], ?_⟩
  obtain ⟨-, he, -, -⟩ := (whole_iff a).1 h
  unfold noV
  rw [he]
  simp
theorem no_st {a : DD} (h : noV a = true) : stV a = true := by unfold stV; rw [h]; rfl
/-- What Apply answers with no error stands. -/
theorem app_st {x : Bool} {n d : DD} (h : appE n d = 0) : stV (appD x n d) = true := by
  cases hb : appB x n d
  · rw [app_not h hb]
    unfold appE at h
    cases hq : (kindV d == 0 || !stV n)
    · rw [Bool.or_eq_false_iff] at hq
      simpa using hq.2
    · rw [hq] at h
      exact absurd h (by decide)
  · exact (whole_st (app_took hb).2.1.whole).1
theorem app_E {n d : DD} (h : appE n d = 0) : ¬ kindV d = 0 ∧ stV n = true := by
  unfold appE at h
  cases hq : (kindV d == 0 || !stV n)
  · rw [Bool.or_eq_false_iff] at hq
    exact ⟨by simpa using hq.1, by simpa using hq.2⟩
  · rw [hq] at h
    exact absurd h (by decide)
/-- What a descriptor that is not refused leaves as it was, where the property is not configurable. -/
theorem bec_kept {a d : DD} (ha : wholeV a = true) (hd : ¬ kindV d = 0) (hc : a.c = 1) (hf : forbV a d = false) : (becV a d).c = 1 ∧ (becV a d).e = a.e ∧ shapeV (becV a d) = shapeV a ∧ (shapeV a = 3 → samV a.g (becV a d).g = true ∧ samV a.s (becV a d).s = true ∧ (becV a d).v = a.v ∧ (becV a d).w = a.w) ∧ (¬ shapeV a = 3 → (becV a d).g = a.g ∧ (becV a d).s = a.s ∧ (a.w = 1 → (becV a d).w = 1 ∧ samV a.v (becV a d).v = true)) := by
  obtain ⟨hs, hk⟩ := (kind_iff d).1 hd
  obtain ⟨p1, p2, p3, p4, p5, p6⟩ := sound_parts hs
  obtain ⟨ns, ne, nc, nn⟩ := (whole_iff a).1 ha
  have T := took_bec ha hd
  obtain ⟨-, -, -, bb⟩ := (whole_iff _).1 T.whole
  have ht : turnV a d = false := by
    cases ht : turnV a d
    · rfl
    · unfold forbV at hf
      rw [ht] at hf
      simp at hf
  have hb : becV a d = ⟨orV d.v a.v, orV d.g a.g, orV d.s a.s, orT d.w a.w, orT d.e a.e, orT d.c a.c⟩ := by
    unfold becV
    rw [ht]
    rfl
  have sh : ((thV d.v || d.w != 0) = true → shapeV a = 2) ∧ ((thV d.g || thV d.s) = true → shapeV a = 3) := by
    unfold turnV shapeV at ht
    unfold shapeV
    generalize (thV d.v || d.w != 0) = p at *
    generalize (thV d.g || thV d.s) = q at *
    rcases nn with ⟨n1, n2, n3, n4⟩ | ⟨n1, n2, n3, n4⟩
    · rw [n1, n2, n3, n4] at ht ⊢
      revert ht hk
      cases p <;> cases q <;> decide
    · rw [n1, n2, n3, n4] at ht ⊢
      revert ht hk
      cases p <;> cases q <;> decide
  unfold forbV at hf
  rw [ht] at hf
  have hq : (d.c == 2 || d.e != 0 && d.e != a.e) = false := by
    cases hq : (d.c == 2 || d.e != 0 && d.e != a.e)
    · rfl
    · rw [hq] at hf
      simp at hf
  rw [hq] at hf
  rw [Bool.or_eq_false_iff] at hq
  simp only [Bool.or_false, Bool.false_eq_true, if_false] at hf
  have okn := ns
  have dif : ∀ (v u : VV), okF u → difV u v = false → samV u (orV v u) = true := fun v u o k => by
    cases hv : thV v
    · rw [orV_no hv]
      exact sam_refl o
    · rw [orV_th hv]
      unfold difV at k
      rw [hv] at k
      simpa using k
  rw [hb]
  refine ⟨?_, ?_, ?_, ?_, ?_⟩
  · show orT d.c a.c = 1
    cases h0 : (d.c != 0)
    · rw [orT_no h0]
      exact hc
    · rw [orT_th h0]
      rcases tri_12 p6 h0 with h | h
      · exact h
      · rw [h] at hq
        exact absurd hq.1 (by decide)
  · show orT d.e a.e = a.e
    cases h0 : (d.e != 0)
    · exact orT_no h0
    · rw [orT_th h0]
      have := hq.2
      rw [h0] at this
      simpa using this
  · rw [← hb]
    have e1 : ∀ u : DD, wholeV u = true → shapeV u = if thV u.v then 2 else 3 := fun u hu => by
      obtain ⟨-, -, -, k⟩ := (whole_iff u).1 hu
      unfold shapeV
      rcases k with ⟨n1, n2, n3, n4⟩ | ⟨n1, n2, n3, n4⟩ <;> rw [n1, n2, n3, n4] <;> rfl
    rw [e1 _ T.whole, e1 _ ha]
    rw [hb]
    show (if thV (orV d.v a.v) then (2 : Int) else 3) = _
    rw [thV_or]
    cases hv : thV d.v
    · rfl
    · have := sh.1 (by rw [hv]; rfl)
      rw [e1 _ ha] at this
      cases hav : thV a.v
      · rw [hav] at this
        simp at this
      · rfl
  · intro h3
    simp only [h3, beq_self_eq_true, if_true, Bool.or_eq_false_iff] at hf
    have h0 : (thV d.v || d.w != 0) = false := by
      cases hx : (thV d.v || d.w != 0)
      · rfl
      · have := sh.1 hx
        omega
    rw [Bool.or_eq_false_iff] at h0
    exact ⟨dif _ _ (okG ns) hf.1, dif _ _ (okS ns) hf.2, orV_no h0.1, orT_no h0.2⟩
  · intro h3
    have h0 : (thV d.g || thV d.s) = false := by
      cases hx : (thV d.g || thV d.s)
      · rfl
      · exact absurd (sh.2 hx) h3
    rw [Bool.or_eq_false_iff] at h0
    refine ⟨orV_no h0.1, orV_no h0.2, fun h1 => ?_⟩
    have h3' : (shapeV a == 3) = false := by simpa using h3
    simp only [h3', h1, beq_self_eq_true, Bool.true_and, Bool.false_eq_true, if_false, Bool.or_eq_false_iff] at hf
    refine ⟨?_, dif _ _ (okV ns) hf.2⟩
    show orT d.w a.w = 1
    cases hw : (d.w != 0)
    · rw [orT_no hw]
      exact h1
    · rw [orT_th hw]
      rcases tri_12 p4 hw with h | h
      · exact h
      · rw [h] at hf
        exact absurd hf.1 (by decide)
theorem kept_self {a : DD} (ha : wholeV a = true) (hc : a.c = 1) : keptV a a = true := by
  obtain ⟨ns, ne, nc, nn⟩ := (whole_iff a).1 ha
  obtain ⟨q1, q2, q3, q4, q5, q6⟩ := sound_parts ns
  unfold keptV
  rw [hc, sam_refl (okG ns), sam_refl (okS ns), sam_refl (okV ns)]
  by_cases h3 : shapeV a = 3
  · simp [h3]
  · rcases nn with ⟨n1, n2, n3, n4⟩ | ⟨n1, n2, n3, n4⟩
    · rcases tri_12 q4 n2 with h | h <;> simp [h, h3]
    · refine absurd ?_ h3
      unfold shapeV
      rw [n1, n2, n3, n4]
      rfl
theorem keep_self {a : DD} (h : stV a = true) : keepB a a = true := by
  unfold keepB
  rw [h]
  cases hno : noV a
  · have ha := st_whole h hno
    obtain ⟨ns, ne, nc, nn⟩ := (whole_iff a).1 ha
    rcases tri_12 (sound_parts ns).2.2.2.2.2 nc with hc | hc
    · rw [kept_self ha hc]
      simp
    · rw [hc]
      rfl
  · rfl
theorem keep_step {x : Bool} {a d : DD} (h : appE a d = 0) : keepB a (appD x a d) = true := by
  obtain ⟨hd, hst⟩ := app_E h
  have hst2 := app_st (x := x) h
  cases hb : appB x a d
  · rw [app_not h hb]
    exact keep_self hst
  · unfold keepB
    rw [hst, hst2]
    cases hno : noV a
    · have ha := st_whole hst hno
      obtain ⟨ns, ne, nc, nn⟩ := (whole_iff a).1 ha
      rcases tri_12 (sound_parts ns).2.2.2.2.2 nc with hc | hc
      · unfold appB at hb
        have hk0 : (kindV d == 0) = false := by simp [hd]
        rw [hk0, hst, hno] at hb
        simp only [Bool.not_true, Bool.or_self, Bool.false_eq_true, if_false, hc, beq_self_eq_true, Bool.true_and, Bool.not_eq_true'] at hb
        have he : appD x a d = becV a d := by
          unfold appD
          rw [hk0, hst, hno, hb]
          simp
        rw [he]
        obtain ⟨k1, k2, k3, k4, k5⟩ := bec_kept ha hd hc hb
        unfold keptV
        rw [k1, k2, k3]
        by_cases h3 : shapeV a = 3
        · obtain ⟨j1, j2, -, -⟩ := k4 h3
          simp [h3, j1, j2]
        · obtain ⟨-, -, j⟩ := k5 h3
          rcases nn with ⟨n1, n2, n3, n4⟩ | ⟨n1, n2, n3, n4⟩
          · rcases tri_12 (sound_parts ns).2.2.2.1 n2 with h1 | h1
            · obtain ⟨j1, j2⟩ := j h1
              simp [h3, j1, j2]
            · simp [h3, h1]
          · refine absurd ?_ h3
            unfold shapeV
            rw [n1, n2, n3, n4]
            rfl
      · rw [hc]
        rfl
    · rfl
theorem kept_trans {a b c : DD} (h1 : keptV a b = true) (h2 : keptV b c = true) : keptV a c = true := by
  have un : ∀ a b : DD, keptV a b = true → b.c = 1 ∧ b.e = a.e ∧ shapeV b = shapeV a ∧ (shapeV a = 3 → samV a.g b.g = true ∧ samV a.s b.s = true) ∧ (¬ shapeV a = 3 → a.w = 2 ∨ b.w = 1 ∧ samV a.v b.v = true) := fun a b h => by
    unfold keptV at h
    cases hq : (b.c != 1 || b.e != a.e || shapeV b != shapeV a)
    · rw [hq] at h
      simp only [Bool.or_eq_false_iff, bne_eq_false_iff_eq] at hq
      refine ⟨hq.1.1, hq.1.2, hq.2, fun h3 => ?_, fun h3 => ?_⟩
      · simpa [h3] using h
      · simpa [h3] using h
    · rw [hq] at h
      simp at h
  obtain ⟨a1, a2, a3, a4, a5⟩ := un a b h1
  obtain ⟨b1, b2, b3, b4, b5⟩ := un b c h2
  unfold keptV
  rw [b1, b2, b3, a2, a3]
  by_cases h3 : shapeV a = 3
  · obtain ⟨j1, j2⟩ := a4 h3
    obtain ⟨i1, i2⟩ := b4 (a3.trans h3)
    simp [h3, sam_trans j1 i1, sam_trans j2 i2]
  · have h3b : ¬ shapeV b = 3 := fun k => h3 (a3 ▸ k)
    rcases a5 h3 with hw | ⟨hw, hs⟩
    · simp [h3, hw]
    · rcases b5 h3b with hw2 | ⟨hw2, hs2⟩
      · omega
      · simp [h3, hw2, sam_trans hs hs2]
theorem keep_trans {a b c : DD} (hc : stV c = true) (h1 : keepB a b = true) (h2 : keepB b c = true) : keepB a c = true := by
  unfold keepB at *
  cases ha : stV a
  · rw [ha] at h1
    simp at h1
  · cases hb : stV b
    · rw [ha, hb] at h1
      simp at h1
    · rw [ha, hb] at h1
      rw [hb, hc] at h2
      rw [hc]
      simp only [Bool.not_true, Bool.or_self, Bool.false_eq_true, if_false] at h1 h2 ⊢
      cases hq : (noV a || a.c == 2)
      · rw [hq] at h1
        simp only [Bool.false_eq_true, if_false] at h1 ⊢
        have hbc : b.c = 1 := by
          unfold keptV at h1
          cases hq : (b.c != 1 || b.e != a.e || shapeV b != shapeV a)
          · simp only [Bool.or_eq_false_iff, bne_eq_false_iff_eq] at hq
            exact hq.1.1
          · rw [hq] at h1
            simp at h1
        have hn : (noV b || b.c == 2) = false := by
          unfold noV
          rw [hbc]
          simp
        rw [hn] at h2
        exact kept_trans h1 h2
      · rfl
/-- Each moment of a row of moments keeps what it may not lose, at each later one. -/
def Row (all : List DD) : Prop := all ≠ [] ∧ (∀ a ∈ all, stV a = true) ∧ all.Pairwise (fun a b => keepB a b = true)
theorem row_one {n : DD} (h : stV n = true) : Row [n] := ⟨by simp, by simpa using h, by simp⟩
theorem row_snoc {all : List DD} (h : Row all) (x : Bool) (d : DD) (a : DD) (ha : all.getLast? = some a) (he : appE a d = 0) : Row (all ++ [appD x a d]) := by
  obtain ⟨h1, h2, h3⟩ := h
  have hs := app_st (x := x) he
  have hst := keep_step (x := x) he
  have ham := List.mem_of_getLast? ha
  refine ⟨by simp, ?_, ?_⟩
  · intro b hb
    rcases List.mem_append.1 hb with hb | hb
    · exact h2 b hb
    · obtain rfl : b = appD x a d := by simpa using hb
      exact hs
  · rw [List.pairwise_append]
    refine ⟨h3, by simp, ?_⟩
    intro b hb c hc
    obtain rfl : c = appD x a d := by simpa using hc
    obtain ⟨i, hi, rfl⟩ := List.mem_iff_getElem.1 hb
    have hl : all[all.length - 1]'(by omega) = a := by
      rw [List.getLast?_eq_getElem?] at ha
      exact (List.getElem?_eq_some_iff.1 ha).2
    by_cases e : i = all.length - 1
    · subst e
      rw [hl]
      exact hst
    · refine keep_trans hs ?_ hst
      have := List.pairwise_iff_getElem.1 h3 i (all.length - 1) hi (by omega) (by omega)
      rw [hl] at this
      exact this
theorem row_get {all : List DD} (h : Row all) {i k : Nat} (hi : i ≤ k) (hk : k < all.length) : keepB (all[i]'(by omega)) all[k] = true ∧ keepE (all[i]'(by omega)) all[k] = 0 := by
  obtain ⟨h1, h2, h3⟩ := h
  have a1 := h2 _ (List.getElem_mem (show i < all.length by omega))
  have a2 := h2 _ (List.getElem_mem hk)
  refine ⟨?_, by unfold keepE; rw [a1, a2]; rfl⟩
  by_cases e : i = k
  · subst e
    exact keep_self a1
  · exact List.pairwise_iff_getElem.1 h3 i k (by omega) hk (by omega)
/-- What is frozen. -/
def Fzn (a : DD) : Prop := wholeV a = true ∧ a.c = 1 ∧ (shapeV a = 2 → a.w = 1)
theorem frz_step {a d : DD} (x : Bool) (h : Fzn a) (he : appE a d = 0) : Fzn (appD x a d) ∧ smB a (appD x a d) = true ∧ smE a (appD x a d) = 0 := by
  obtain ⟨ha, hc, hw⟩ := h
  obtain ⟨hd, hst⟩ := app_E he
  obtain ⟨ns, ne, nc, nn⟩ := (whole_iff a).1 ha
  have hkA : (kindV a == 0) = false := by
    have := whole_kind ha
    simpa using this
  have sm : ∀ b, wholeV b = true → samD a b = true → smB a b = true ∧ smE a b = 0 := fun b hb hs => by
    have hkB : (kindV b == 0) = false := by
      have := whole_kind hb
      simpa using this
    unfold smB smE
    rw [hkA, hkB]
    exact ⟨hs, rfl⟩
  cases hb : appB x a d
  · rw [app_not he hb]
    refine ⟨⟨ha, hc, hw⟩, sm a ha ?_⟩
    unfold samD
    rw [sam_refl (okV ns), sam_refl (okG ns), sam_refl (okS ns)]
    simp
  · have hT := (app_took hb).2.1.whole
    have hno := (whole_st ha).2
    unfold appB at hb
    have hk0 : (kindV d == 0) = false := by simp [hd]
    rw [hk0, hst, hno] at hb
    simp only [Bool.not_true, Bool.or_self, Bool.false_eq_true, if_false, hc, beq_self_eq_true, Bool.true_and, Bool.not_eq_true'] at hb
    have hee : appD x a d = becV a d := by
      unfold appD
      rw [hk0, hst, hno, hb]
      simp
    rw [hee] at hT ⊢
    obtain ⟨k1, k2, k3, k4, k5⟩ := bec_kept ha hd hc hb
    have e1 : shapeV a = 2 ∨ shapeV a = 3 := by
      unfold shapeV
      rcases nn with ⟨n1, n2, n3, n4⟩ | ⟨n1, n2, n3, n4⟩ <;> rw [n1, n2, n3, n4] <;> simp
    rcases e1 with h2 | h3
    · obtain ⟨j1, j2, j3⟩ := k5 (by omega)
      obtain ⟨i1, i2⟩ := j3 (hw h2)
      refine ⟨⟨hT, k1, fun _ => i1⟩, sm _ hT ?_⟩
      unfold samD
      rw [j1, j2, i1, i2, k1, k2, hc, hw h2, sam_refl (okG ns), sam_refl (okS ns)]
      simp
    · obtain ⟨j1, j2, j3, j4⟩ := k4 h3
      refine ⟨⟨hT, k1, fun h => by rw [k3, h3] at h; exact absurd h (by decide)⟩, sm _ hT ?_⟩
      unfold samD
      rw [j1, j2, j3, j4, k1, k2, hc, sam_refl (okV ns)]
      simp
theorem kz2 : ¬ kindV ⟨zeroV, zeroV, zeroV, if (2 : Int) == 2 then 1 else 0, 0, 1⟩ = 0 := by
  have h : kindV ⟨zeroV, zeroV, zeroV, if (2 : Int) == 2 then 1 else 0, 0, 1⟩ = 2 := by kernel_rfl
  rw [h]
  decide
theorem kz3 : ¬ kindV ⟨zeroV, zeroV, zeroV, if (3 : Int) == 2 then 1 else 0, 0, 1⟩ = 0 := by
  have h : kindV ⟨zeroV, zeroV, zeroV, if (3 : Int) == 2 then 1 else 0, 0, 1⟩ = 1 := by kernel_rfl
  rw [h]
  decide
theorem sz2 : (shapeV ⟨zeroV, zeroV, zeroV, if (2 : Int) == 2 then 1 else 0, 0, 1⟩ != 1 && shapeV ⟨zeroV, zeroV, zeroV, if (2 : Int) == 2 then 1 else 0, 0, 1⟩ != 2) = false := by kernel_rfl
theorem sz3 : (shapeV ⟨zeroV, zeroV, zeroV, if (3 : Int) == 2 then 1 else 0, 0, 1⟩ != 1 && shapeV ⟨zeroV, zeroV, zeroV, if (3 : Int) == 2 then 1 else 0, 0, 1⟩ != 3) = false := by kernel_rfl
theorem frz_first {n : DD} (h : wholeV n = true) : appE n (frzV n) = 0 ∧ appB true n (frzV n) = true ∧ Fzn (appD true n (frzV n)) := by
  obtain ⟨ns, ne, nc, nn⟩ := (whole_iff n).1 h
  obtain ⟨hst, hno⟩ := whole_st h
  have e1 : shapeV n = 2 ∨ shapeV n = 3 := by
    unfold shapeV
    rcases nn with ⟨n1, n2, n3, n4⟩ | ⟨n1, n2, n3, n4⟩ <;> rw [n1, n2, n3, n4] <;> simp
  have tz : thV zeroV = false := zero_th
  have dz : ∀ v, difV v zeroV = false := fun v => by unfold difV; rw [tz]; rfl
  have hf : frzV n = ⟨zeroV, zeroV, zeroV, if shapeV n == 2 then 1 else 0, 0, 1⟩ := by
    unfold frzV
    rw [h]
    rfl
  have hk : ¬ kindV (frzV n) = 0 := by
    rw [hf]
    rcases e1 with h2 | h3
    · rw [h2]
      exact kz2
    · rw [h3]
      exact kz3
  have ht : turnV n (frzV n) = false := by
    rw [hf]
    unfold turnV
    rcases e1 with h2 | h3
    · rw [h2]
      exact sz2
    · rw [h3]
      exact sz3
  have hfb : forbV n (frzV n) = false := by
    unfold forbV
    rw [ht, hf]
    dsimp only
    rw [dz, dz, dz]
    rcases e1 with h2 | h3
    · rw [h2]
      simp
    · rw [h3]
      simp
  have hk0 : (kindV (frzV n) == 0) = false := by simp [hk]
  have hB : appB true n (frzV n) = true := by
    unfold appB
    rw [hk0, hst, hno, hfb]
    simp
  have hD : appD true n (frzV n) = becV n (frzV n) := by
    unfold appD
    rw [hk0, hst, hno, hfb]
    simp
  refine ⟨(app_took hB).2.2, hB, (app_took hB).2.1.whole, ?_, ?_⟩
  · rw [(app_took hB).2.1.c (by rw [hf]; rfl), hf]
  · intro h2
    have hs2 : shapeV n = 2 := by
      rcases e1 with k | k
      · exact k
      · have hw2 := (app_took hB).2.1.turn
        exfalso
        have hb : becV n (frzV n) = ⟨orV zeroV n.v, orV zeroV n.g, orV zeroV n.s, orT 0 n.w, orT 0 n.e, orT 1 n.c⟩ := by
          unfold becV
          rw [ht, hf, k]
          rfl
        rw [hD, hb, orV_no tz, orV_no tz, orV_no tz] at h2
        have : shapeV ⟨n.v, n.g, n.s, orT 0 n.w, orT 0 n.e, orT 1 n.c⟩ = shapeV n := by
          have e : orT 0 n.w = n.w := rfl
          unfold shapeV
          rw [e]
        rw [this, k] at h2
        exact absurd h2 (by decide)
    rw [(app_took hB).2.1.w (by rw [hf, hs2]; rfl), hf, hs2]
    rfl
end Go.Proofs.YtedgaaaloigpdaaDoor
