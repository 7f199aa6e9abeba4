import Derived.Test.YtclahchmdcgdhaaGn
namespace Go.Proofs.Ytclahchmdcgdhaa
open Go.RowKit FM
theorem sc_three (a b : Nat) : sc a b = -1 ∨ sc a b = 0 ∨ sc a b = 1 := by
  unfold sc; repeat' split
  all_goals simp
set_option maxHeartbeats 2000000 in
set_option maxRecDepth 100000 in
theorem refclamp_any (x : Nat) (hx : x < 2 ^ 64) (w : World) : Calls Try.prog 20 #[.float .f64 x] w fun e w' => e = .returned (.int .i64 (clV x : Int)) ∧ Below w.heap.size w w' := by
  have HN := fun w => nan_any x hx w
  have HG := fun w => negative_any x hx w
  have HS := fun w => size_any x hx w
  have HP := fun w => parts_any (sz x) (sz_lt x) w
  rcases Bool.eq_false_or_eq_true (isN x) with hn | hn
  · rw [hn] at HN
    have hV : clV x = 0 := by unfold clV; rw [if_pos (.inl hn)]
    rw [hV]
    clear hV
    go_enter Try.func20, Try.ntmps20
    go_wp2_with fail
    refine (HN _).mono ?_
    rintro e w' ⟨rfl, rfl⟩
    go_wp2
    go_ret
    exact ⟨rfl, Below.refl _ _⟩
  rw [hn] at HN
  rcases Bool.eq_false_or_eq_true (ng x) with hg | hg
  · rw [hg] at HG
    have hV : clV x = 0 := by
      unfold clV
      by_cases h0 : 0 < sz x
      · rw [if_pos (.inr ⟨hg, h0⟩)]
      · have h00 : sz x = 0 := by omega
        rw [if_neg (by simp [hn, h00]), h00]; decide +kernel
    rw [hV]
    clear hV
    go_enter Try.func20, Try.ntmps20
    go_wp2_with fail
    refine (HN _).mono ?_
    rintro e w' ⟨rfl, rfl⟩
    go_wp2_with fail
    refine (HG _).mono ?_
    rintro e w' ⟨rfl, rfl⟩
    go_wp2
    go_ret
    exact ⟨rfl, Below.refl _ _⟩
  rw [hg] at HG
  have hI : sz x ≤ INF := by
    unfold isN at hn
    simpa using hn
  have HW := fun w => whole_all x hx hI w
  have hV : clV x = if 255 ≤ wh (sz x) then 255 else evQ (vl (sz x)) 1074 := by
    unfold clV
    rw [if_neg (by simp [hn, hg])]
    by_cases h1 : C255 < sz x
    · rw [if_pos h1, if_pos (wh255 _ h1)]
    · rw [if_neg h1]
      split
      · next h2 => exact ev255 _ (by omega) h2
      · rfl
  have HV : Hid _ := ⟨hV⟩; clear hV
  have hinf : sz x = INF → 255 ≤ wh (sz x) := fun h => wh255 _ (by rw [h]; decide)
  have HINF : Hid _ := ⟨hinf⟩; clear hinf
  go_enter Try.func20, Try.ntmps20
  go_wp2_with fail
  refine (HN _).mono ?_
  rintro e w' ⟨rfl, rfl⟩
  go_wp2_with fail
  refine (HG _).mono ?_
  rintro e w' ⟨rfl, rfl⟩
  go_wp2_with fail
  refine (HW _).mono ?_
  rintro e w' ⟨n, ok, rfl, hk1, hk2, hn64, rfl⟩
  by_cases h255 : 255 ≤ wh (sz x)
  · have HB : Hid _ := ⟨h255⟩
    cases ok with
    | false =>
      clear hk1 hk2 h255
      go_wp2
      go_ret
      exact ⟨rt2 (by rw [HV.it, if_pos HB.it]; rfl), Below.refl _ _⟩
    | true =>
      have hnn := hk1 rfl
      have hb : (255 : Int) ≤ (n : Int) := by omega
      clear hk1 hk2 hnn h255
      go_wp2
      go_ret
      exact ⟨rt2 (by rw [HV.it, if_pos HB.it]; rfl), Below.refl _ _⟩
  · cases ok with
    | false => have := hk2 rfl; omega
    | true =>
      have hnn := hk1 rfl
      have hpk := pk_small (sz x) (by omega)
      have hb : (n : Int) < (255 : Int) := by omega
      have hi' : ((sz x : Int) == 9218868437227405312) = false := by
        simp only [beq_eq_false_iff_ne]
        intro h
        exact h255 (HINF.it (by unfold INF; omega))
      have hvp := vl_parts (sz x)
      have hwl := wh_low (sz x) (by omega)
      have hpm := pm_lt (sz x)
      obtain ⟨e, he⟩ : ∃ e, 1074 - pk (sz x) = e := ⟨_, rfl⟩
      rw [he] at hwl
      have hei : (-1074 + (pk (sz x) : Int)) = -(e : Int) := by omega
      simp only [hei] at HP
      have hev : evQ (vl (sz x)) 1074 = n + (if sc (2 * pm (sz x)) ((2 * n + 1) * 2 ^ e) = 1 ∨ (sc (2 * pm (sz x)) ((2 * n + 1) * 2 ^ e) = 0 ∧ n % 2 = 1) then 1 else 0) := by
        have h1 := evQ_sc (pm (sz x)) e (pk (sz x))
        rw [← hvp, show e + pk (sz x) = 1074 by omega, ← hwl, ← hnn] at h1
        exact h1
      obtain ⟨c, hcd⟩ : ∃ c, sc (2 * pm (sz x)) ((2 * n + 1) * 2 ^ e) = c := ⟨_, rfl⟩
      have h3 : c = -1 ∨ c = 0 ∨ c = 1 := by rw [← hcd]; exact sc_three _ _
      rw [hcd] at hev
      have hR : (clV x : Int) = (n : Int) + (if c = 1 ∨ (c = 0 ∧ n % 2 = 1) then 1 else 0) := by
        rw [HV.it, if_neg h255, hev]
        split <;> simp
      have HR : Hid _ := ⟨hR⟩
      clear hR
      have HE1 := fun w => exact_any (pm (sz x)) e (by omega) (by omega) (by omega) w
      have HE2 : ∀ w, Calls Try.prog 53 #[.int .u64 (2 * (n : Int) + 1), .int .i64 (-1)] w fun r w' => ∃ vd D P', r = .returned (.agg #[vd, .int .i64 P']) ∧ ReadsD w' vd D ∧ isDec D P' ((2 * n + 1) * 5 ^ 1) (-((1 : Nat) : Int)) ∧ D.length ≤ 1000000 ∧ Below w.heap.size w w' := by
        intro w
        have h := exact_any (2 * n + 1) 1 (by omega) (by omega) (by omega) w
        rw [show ((2 * n + 1 : Nat) : Int) = 2 * (n : Int) + 1 by omega] at h
        exact h
      have he1 : 1 ≤ e := by omega
      clear hk1 hk2 hnn h255 hev hwl hvp hpk he hei HV HINF
      generalize pm (sz x) = m at *
      go_wp2_with fail
      refine (HS _).mono ?_
      rintro e0 w' ⟨rfl, rfl⟩
      go_wp2_with fail
      refine (HS _).mono ?_
      rintro e0 w' ⟨rfl, rfl⟩
      go_wp2_with fail
      refine (HP _).mono ?_
      rintro e0 w' ⟨rfl, rfl⟩
      go_wp2_with fail
      refine (HE1 _).mono ?_
      rintro e0 w1 ⟨v1, D1, P1, rfl, hr1, hd1, hl1, hb1⟩
      go_wp2_with fail
      refine (HE2 _).mono ?_
      rintro e0 w2 ⟨v2, D2, P2, rfl, hr2, hd2, hl2, hb2⟩
      have hne : D2 ≠ [] := by
        intro h
        have := hd2.2.1 h
        omega
      have hc := cmpD_sc D1 D2 P1 P2 _ _ _ _ 0 (e - 1) hd1 hd2 (by omega)
      rw [half_sc m (2 * n + 1) e he1, hcd] at hc
      have HC := compare_all v1 v2 D1 D2 P1 P2 hl1 hl2 hne w2 (hr1.same hb2) hr2
      rw [hc] at HC
      have HOUT : Hid _ := ⟨hb1.trans (hb2.mono hb1.size)⟩
      have hsz := Nat.le_trans hb1.size hb2.size
      clear hr1 hr2 hd1 hd2 hc hne
      go_wp2_with fail
      refine HC.mono ?_
      rintro e0 w3 ⟨rfl, hb3⟩
      have HO3 : Hid _ := ⟨HOUT.it.trans (hb3.mono hsz)⟩
      clear HC
      clear HE1 HE2 HP HS HN HG HW hpm hcd he1 hl1 hl2 hb1 hb2 hb3 hsz HOUT
      have hw64 : wrap64 (n : Int) = (n : Int) := by unfold wrap64; omega
      have hw65 : wrap64 ((n : Int) + 1) = (n : Int) + 1 := by unfold wrap64; omega
      rcases h3 with rfl | rfl | rfl
      · have hr : (clV x : Int) = (n : Int) := by rw [HR.it, if_neg (by omega)]; omega
        have HRR : Hid _ := ⟨hr⟩
        clear hr HR
        go_wp2
        go_ret
        exact ⟨rt2 HRR.it, HO3.it⟩
      · rcases Nat.mod_two_eq_zero_or_one n with h2 | h2
        · have hr : (clV x : Int) = (n : Int) := by rw [HR.it, if_neg (by omega)]; omega
          have HRR : Hid _ := ⟨hr⟩
          have h2j : (n : Int) % 2 = 0 := by omega
          clear hr HR h2
          go_wp2
          go_ret
          exact ⟨rt2 HRR.it, HO3.it⟩
        · have hr : (clV x : Int) = (n : Int) + 1 := by rw [HR.it, if_pos (by omega)]
          have HRR : Hid _ := ⟨hr⟩
          have h2j : (n : Int) % 2 = 1 := by omega
          clear hr HR h2
          go_wp2
          go_ret
          exact ⟨rt2 HRR.it, HO3.it⟩
      · have hr : (clV x : Int) = (n : Int) + 1 := by rw [HR.it, if_pos (by omega)]
        have HRR : Hid _ := ⟨hr⟩
        clear hr HR
        go_wp2
        go_ret
        exact ⟨rt2 HRR.it, HO3.it⟩
end Go.Proofs.Ytclahchmdcgdhaa
