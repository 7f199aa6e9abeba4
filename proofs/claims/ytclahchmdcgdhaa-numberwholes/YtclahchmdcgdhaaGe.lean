import Derived.Test.YtclahchmdcgdhaaGd
namespace Go.Proofs.Ytclahchmdcgdhaa
open Go.RowKit FM
attribute [local go_sem] frombits_run bits_run neg_run

theorem inf_wh : 18446744073709551616 ≤ wh INF := by decide +kernel
theorem refIndex_any (x : Nat) (hx : x < 2 ^ 64) (w : World) : Calls Try.prog 9 #[.float .f64 x] w fun e w' => e = .returned (.tuple #[.int .i64 (ixV x), .int .i64 (ixE x)]) ∧ w' = w := by
  have HN := fun w => nan_any x hx w
  have HS := fun w => size_any x hx w
  have HG := fun w => negative_any x hx w
  cases hn : isN x
  · rw [hn] at HN
    have hI : sz x ≤ INF := by simpa [isN] using hn
    have HW := fun w => whole_all x hx hI w
    have hinf : sz x = INF → 18446744073709551616 ≤ wh (sz x) := fun h => by rw [h]; exact inf_wh
    have hE : ixE x = if wh (sz x) ≤ 9007199254740991 ∧ (ng x = true → wh (sz x) = 0) then 0 else 7 := by
      unfold ixE; rw [hn]; simp only [Bool.false_eq_true, false_or]
    have hV : ixV x = if wh (sz x) ≤ 9007199254740991 ∧ (ng x = true → wh (sz x) = 0) then (wh (sz x) : Int) else 0 := by
      unfold ixV; rw [hn]; simp only [true_and]
    have HEV : Hid ((ixV x = if wh (sz x) ≤ 9007199254740991 ∧ (ng x = true → wh (sz x) = 0) then (wh (sz x) : Int) else 0) ∧ (ixE x = if wh (sz x) ≤ 9007199254740991 ∧ (ng x = true → wh (sz x) = 0) then 0 else 7)) := ⟨hV, hE⟩
    clear hE hV
    by_cases hi : sz x = INF
    · have hbig := hinf hi
      have hc : ¬ (wh (sz x) ≤ 9007199254740991 ∧ (ng x = true → wh (sz x) = 0)) := by omega
      have hE := HEV.it.2
      have hV := HEV.it.1
      rw [if_neg hc] at hE hV
      rw [hV, hE]
      clear hE hV HEV
      rw [hi] at HS
      have HS' : ∀ w, Calls Try.prog 40 #[.float .f64 x] w fun e w' => e = .returned (.int .u64 9218868437227405312) ∧ w' = w := HS
      clear HS hi hc hinf hI
      generalize wh (sz x) = V at *
      go_enter Try.func9, Try.ntmps9
      go_wp2_with fail
      refine (HN _).mono ?_
      rintro e w' ⟨rfl, rfl⟩
      go_wp2_with fail
      refine (HW _).mono ?_
      rintro e w' ⟨n, ok, rfl, hk1, hk2, hn64, rfl⟩
      cases ok
      · clear hk1 hk2
        go_wp2
        go_ret2
        exact ⟨rfl, rfl⟩
      · have := hk1 rfl
        omega
    · have hi' : ((sz x : Int) == 9218868437227405312) = false := by
        simp only [beq_eq_false_iff_ne]; unfold INF at hi; omega
      clear hinf hi hI
      generalize wh (sz x) = V at *
      go_enter Try.func9, Try.ntmps9
      go_wp2_with fail
      refine (HN _).mono ?_
      rintro e w' ⟨rfl, rfl⟩
      go_wp2_with fail
      refine (HW _).mono ?_
      rintro e w' ⟨n, ok, rfl, hk1, hk2, hn64, rfl⟩
      cases ok
      · have hb := (hk2 rfl).1
        have hc : ¬ (V ≤ 9007199254740991 ∧ (ng x = true → V = 0)) := by omega
        have HC : Hid (¬ (V ≤ 9007199254740991 ∧ (ng x = true → V = 0))) := ⟨hc⟩
        clear hk1 hk2 hc hb
        go_wp2
        go_ret2
        exact ⟨rt (vi (by rw [HEV.it.1, if_neg HC.it])) (vi (by rw [HEV.it.2, if_neg HC.it])), rfl⟩
      · have hnV : n = V := hk1 rfl
        subst hnV
        clear hk1 hk2
        go_wp2_with fail
        refine (HS _).mono ?_
        rintro e w' ⟨rfl, rfl⟩
        by_cases hb : 9007199254740991 < n
        · have hc : ¬ (n ≤ 9007199254740991 ∧ (ng x = true → n = 0)) := by omega
          have HC : Hid (¬ (n ≤ 9007199254740991 ∧ (ng x = true → n = 0))) := ⟨hc⟩
          have hb' : decide ((9007199254740991 : Int) < (n : Int)) = true := by simp; omega
          clear hc hb
          go_wp2
          go_ret2
          exact ⟨rt (vi (by rw [HEV.it.1, if_neg HC.it])) (vi (by rw [HEV.it.2, if_neg HC.it])), rfl⟩
        · have hb' : decide ((9007199254740991 : Int) < (n : Int)) = false := by simp; omega
          cases hg : ng x
          · rw [hg] at HG
            have HC : Hid (n ≤ 9007199254740991 ∧ (ng x = true → n = 0)) := ⟨by omega, fun h => by rw [hg] at h; cases h⟩
            have hw : wrap64 (n : Int) = (n : Int) := by unfold wrap64; omega
            go_wp2_with fail
            refine (HG _).mono ?_
            rintro e w' ⟨rfl, rfl⟩
            go_wp2
            go_ret2
            exact ⟨rt (vi (by rw [HEV.it.1, if_pos HC.it])) (vi (by rw [HEV.it.2, if_pos HC.it])), rfl⟩
          · rw [hg] at HG
            by_cases h0 : n = 0
            · subst h0
              have HC : Hid (0 ≤ 9007199254740991 ∧ (ng x = true → 0 = 0)) := ⟨by omega, fun _ => rfl⟩
              go_wp2_with fail
              refine (HG _).mono ?_
              rintro e w' ⟨rfl, rfl⟩
              go_wp2
              go_ret2
              exact ⟨rt (vi (by rw [HEV.it.1, if_pos HC.it]; rfl)) (vi (by rw [HEV.it.2, if_pos HC.it])), rfl⟩
            · have HC : Hid (¬ (n ≤ 9007199254740991 ∧ (ng x = true → n = 0))) := ⟨fun h => h0 (h.2 hg)⟩
              have h0' : 0 < n := by omega
              clear h0
              go_wp2_with fail
              refine (HG _).mono ?_
              rintro e w' ⟨rfl, rfl⟩
              go_wp2
              go_ret2
              exact ⟨rt (vi (by rw [HEV.it.1, if_neg HC.it])) (vi (by rw [HEV.it.2, if_neg HC.it])), rfl⟩
  · rw [hn] at HN
    have hE : ixE x = 0 := by unfold ixE; rw [if_pos (.inl hn)]
    have hV : ixV x = 0 := by unfold ixV; rw [if_neg (by rw [hn]; simp)]
    rw [hE, hV]
    clear hE hV
    go_enter Try.func9, Try.ntmps9
    go_wp2_with fail
    refine (HN _).mono ?_
    rintro e w' ⟨rfl, rfl⟩
    go_wp2
    go_ret2
    exact ⟨rfl, rfl⟩
end Go.Proofs.Ytclahchmdcgdhaa
