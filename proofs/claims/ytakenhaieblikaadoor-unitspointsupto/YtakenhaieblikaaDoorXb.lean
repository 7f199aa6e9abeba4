import Derived.Test.YtakenhaieblikaaDoorXa
namespace Go.Proofs.YtakenhaieblikaaDoor
open Go.RowKit Go.Shelf

theorem cps : ∀ (cs : List Nat), M.small cs → ∃ l : List CP, l.map (·.1) = cs
  | [], _ => ⟨[], rfl⟩
  | c :: r, h => by
    obtain ⟨l, hl⟩ := cps r (fun x hx => h x (by simp [hx]))
    exact ⟨⟨c, h c (by simp)⟩ :: l, by simp [hl]⟩
/-- A string whose code points are cs. -/
def Has (t : ByteArray) (cs : List Nat) : Prop := nums t = cs.flatMap M.E ∧ M.small cs ∧ M.noPair false cs = true
theorem Has.valid {t : ByteArray} {cs : List Nat} (h : Has t cs) : vS t = true := by
  unfold vS; rw [h.1]; exact M.valid_of cs false h.2.1 h.2.2
theorem map_rep (cs : List Nat) : cs.map M.rep = cs ↔ (cs.all fun c => !M.isSu c) = true := by
  induction cs with
  | nil => simp
  | cons c r ih =>
    simp only [List.map_cons, List.cons.injEq, List.all_cons, Bool.and_eq_true, ih]
    refine and_congr_left fun _ => ?_
    unfold M.rep
    cases h : M.isSu c with
    | false => simp
    | true =>
      have : c ≠ 65533 := by
        rintro rfl; revert h; decide
      simp; exact fun e => this e.symm
theorem rep_small (cs : List Nat) (h : M.small cs) : M.small (cs.map M.rep) := by
  intro x hx
  obtain ⟨c, hc, rfl⟩ := List.mem_map.1 hx
  unfold M.rep; split
  · omega
  · exact h c hc
def allB (cs : List Nat) : Bool := cs.all fun c => !M.isSu c
theorem text_v (t : ByteArray) (cs : List Nat) (h : Has t cs) (hsz : t.size ≤ 1099511627776) (w : World) (hT : Lib.Utf8Tabs 0 1 w) :
    Calls Tryd.prog 9 #[.string t] w fun e w' => ∃ x, e = .returned (.tuple #[.string x, .int .i64 0]) ∧ (x = t ↔ allB cs = true) ∧ Below w.heap.size w w' := by
  obtain ⟨l, hl⟩ := cps cs h.2.1
  refine (text_good t l (by rw [h.1, ← hl]; rfl) h.valid hsz w hT).mono ?_
  rintro e w' ⟨x, rfl, hx, hb⟩
  refine ⟨x, rfl, ?_, hb⟩
  rw [hl] at hx
  unfold allB
  rw [← map_rep]
  constructor
  · rintro rfl
    rw [h.1] at hx
    exact (M.flat_inj _ _ h.2.1 (rep_small cs h.2.1) hx).symm
  · intro e
    rw [e, ← h.1] at hx
    exact nums_inj hx
theorem well_v (t : ByteArray) (cs : List Nat) (h : Has t cs) (hsz : t.size ≤ 1099511627776) (w : World) (hT : Lib.Utf8Tabs 0 1 w) :
    Calls Tryd.prog 13 #[.string t] w fun e w' => e = .returned (.tuple #[.bool (allB cs), .int .i64 0]) ∧ Below w.heap.size w w' := by
  refine (well_any t hsz w hT).mono ?_
  rintro e w' ⟨rfl, hb⟩
  have h1 : weB t = allB cs := by
    unfold weB allB; rw [h.valid, Bool.true_and]
    exact validD_flat cs t.data.toList h.2.1 h.1
  rw [h1, erS_ok' h.valid]
  exact ⟨rfl, hb⟩
theorem runes_len : ∀ (n : Nat) (l : List Nat), l.length ≤ n → (M.runes l).length ≤ l.length := by
  intro n
  induction n with
  | zero =>
    intro l hl
    have : l = [] := List.eq_nil_of_length_eq_zero (by omega)
    subst this; simp [M.runes_nil]
  | succ n ih =>
    intro l hl
    by_cases hn : l = []
    · subst hn; simp [M.runes_nil]
    · rw [M.runes_step l hn]
      have hp := M.goD_pos l hn
      have h0 : 0 < l.length := List.length_pos_iff.2 hn
      have := ih (l.drop (M.goD l).2) (by simp; omega)
      simp only [List.length_cons, List.length_drop] at *; omega
theorem flat_len (cs : List Nat) : (cs.flatMap M.E).length ≤ 4 * cs.length := by
  induction cs with
  | nil => simp
  | cons c r ih => have := (M.E_len c).2; simp only [List.flatMap_cons, List.length_append, List.length_cons]; omega
theorem ft_has {s u : ByteArray} (h : nums u = ftL s) : Has u (M.runes (nums s)) ∧ allB (M.runes (nums s)) = true ∧ ftL u = nums u ∧ u.size ≤ 4 * s.size := by
  have hs := M.runes_sca _ (nums s) (Nat.le_refl _) (nums_lt s)
  refine ⟨⟨h, fun c hc => (hs c hc).1, M.noPair_sca _ _ hs⟩, ?_, ?_, ?_⟩
  · unfold allB
    rw [List.all_eq_true]
    intro c hc
    have := (hs c hc).2
    simp [M.isSu]; omega
  · unfold ftL; rw [h]; unfold ftL; rw [M.runes_flat _ hs]
  · rw [← nums_len, h]
    have h1 := flat_len (M.runes (nums s))
    have h2 := runes_len _ (nums s) (Nat.le_refl _)
    rw [nums_len] at h2
    unfold ftL; omega
theorem of_has {t : ByteArray} {l : List Nat} (hl : ∀ x ∈ l, x < 65536) (h : nums t = M.ofL l) : Has t (M.row l) := by
  obtain ⟨p1, p2, p3⟩ := M.row_props l.length l (Nat.le_refl _) hl
  exact ⟨h, p1, p3 false (fun _ _ _ => rfl)⟩
theorem fromText_v (u : ByteArray) (h : ftL u = nums u) (hsz : u.size ≤ 1099511627776) (w : World) :
    Calls Tryd.prog 17 #[.string u] w fun e w' => e = .returned (.string u) ∧ Below w.heap.size w w' := by
  refine (fromText_any u hsz w).mono ?_
  rintro e w' ⟨t, rfl, ht, hb⟩
  rw [h] at ht
  rw [nums_inj ht]
  exact ⟨rfl, hb⟩

theorem valid_v (s : ByteArray) (b : Bool) (h : vS s = b) (w : World) (hT : Lib.Utf8Tabs 0 1 w) : Calls Tryd.prog 15 #[.string s] w fun e w' => e = .returned (.bool b) ∧ Below w.heap.size w w' := by
  have := valid_any s w hT
  unfold vS at h; rw [h] at this; exact this
theorem units_v (s : ByteArray) (l : List Nat) (h : vS s = true) (hl : unS s = l) (hsz : s.size ≤ 1099511627776) (w : World) (hT : Lib.Utf8Tabs 0 1 w) :
    Calls Tryd.prog 20 #[.string s] w fun e w' => ∃ v, e = .returned (.tuple #[v, .int .i64 0]) ∧ Reads w' v l ∧ Below w.heap.size w w' := by
  refine (units_any s hsz w hT).mono ?_
  rintro e w' ⟨v, rfl, hown, hb⟩
  rw [hl] at hown
  exact ⟨v, by rw [erS_ok' h], reads_own hown, hb⟩

set_option maxHeartbeats 4000000 in
set_option maxRecDepth 100000 in
theorem law_back (vl : Value) (l : List Nat) (s : ByteArray) (h16 : ∀ x ∈ l, x < 65536) (hlen : l.length ≤ 1048576) (hsz : s.size ≤ 1048576) (w : World) (hR : Reads w vl l) (hT : Lib.Utf8Tabs 0 1 w) :
    Calls Tryd.prog 8 #[vl, .string s] w fun e w' => e = .returned (.bool true) ∧ Below w.heap.size w w' := by
  have HT := hide hT; have HR := hide hR; have H16 := hide h16; clear hT h16
  obtain ⟨A, cap, rfl, _⟩ := reads_open hR
  clear hR
  by_cases hbig : 262144 < l.length
  · have hbig' : (262144 : Int) < (l.length : Int) := by omega
    go_enter Tryd.func8, Tryd.ntmps8
    go_wp2_with fail
    refine (awake_any w (unhide HT)).mono ?_
    rintro e w0 ⟨rfl, hB0⟩
    go_wp2
    go_ret
    exact ⟨rfl, hB0⟩
  have hbig' : ¬ (262144 : Int) < (l.length : Int) := by omega
  go_enter Tryd.func8, Tryd.ntmps8
  go_wp2_with fail
  refine (awake_any w (unhide HT)).mono ?_
  rintro e w0 ⟨rfl, hB0⟩
  go_wp2_with fail
  refine (of_any _ l (unhide H16) (by omega) w0 ((unhide HR).same hB0)).mono ?_
  rintro e w1 ⟨t, rfl, ht, hb1⟩
  have hB1 := hB0.trans (hb1.mono hB0.size)
  have hht := of_has (unhide H16) ht
  have hut := of_un (unhide H16) ht
  have htz : t.size ≤ 1099511627776 := by
    rw [← nums_len, hht.1]
    have h1 := flat_len (M.row l)
    have h2 : (M.row l).length ≤ l.length := by
      obtain ⟨_, p2, _⟩ := M.row_props l.length l (Nat.le_refl _) (unhide H16)
      have h2 : ∀ cs : List Nat, cs.length ≤ (cs.flatMap M.U).length := by
        intro cs
        induction cs with
        | nil => simp
        | cons c r ih =>
          have : 1 ≤ (M.U c).length := by unfold M.U; split <;> simp
          simp only [List.flatMap_cons, List.length_append, List.length_cons]; omega
      have := h2 (M.row l)
      rw [p2] at this; exact this
    omega
  have HHT := hide hht; have HUT := hide hut; have HTZ := hide htz; clear hht hut htz ht
  generalize hcst : M.row l = ct at *
  clear hcst
  go_wp2_with fail
  refine (units_v t l (unhide HUT).1 (unhide HUT).2 (unhide HTZ) w1 (tabs_below (unhide HT) hB1)).mono ?_
  rintro e w2 ⟨v, rfl, hrv, hb2⟩
  have hB2 := hB1.trans (hb2.mono hB1.size)
  have HRV := hide hrv; clear hrv
  go_wp2_with fail
  refine (valid_v t true (unhide HUT).1 w2 (tabs_below (unhide HT) hB2)).mono ?_
  rintro e w3 ⟨rfl, hb3⟩
  have hB3 := hB2.trans (hb3.mono hB2.size)
  go_wp2_with fail
  refine (same_any v _ l (by omega) w3 ((unhide HRV).same hb3) ((unhide HR).same hB3)).mono ?_
  rintro e w4 ⟨rfl, n4, rfl⟩
  have hB4 : Below w.heap.size w (w3.drewN n4) := hB3.trans (below_drewN' _ _ _)
  go_wp2_with fail
  cases hv : vS s with
  | false =>
    have hU := units_any s (by omega) (w3.drewN n4) (tabs_below (unhide HT) hB4)
    rw [erS_bad' hv] at hU
    have HVS := hide (fun w hT => valid_v s false hv w hT)
    clear hv
    refine hU.mono ?_
    clear hU
    rintro e w5 ⟨v5, rfl, _, hb5⟩
    have hB5 := hB4.trans (hb5.mono hB4.size)
    go_wp2_with fail
    refine (unhide HVS w5 (tabs_below (unhide HT) hB5)).mono ?_
    rintro e w5' ⟨rfl, hb5'⟩
    have hB5' := hB5.trans (hb5'.mono hB5.size)
    go_wp2_with fail
    refine (fromText_any s (by omega) w5').mono ?_
    rintro e w6 ⟨u, rfl, hu, hb6⟩
    have hB6 := hB5'.trans (hb6.mono hB5'.size)
    obtain ⟨hu1, hu2, hu3, hu4⟩ := ft_has hu
    have HU1 := hide hu1; have HU2 := hide hu2; have HU3 := hide hu3; clear hu hu1 hu2 hu3
    generalize M.runes (nums s) = cu at *
    go_wp2_with fail
    refine (well_v u cu (unhide HU1) (by omega) w6 (tabs_below (unhide HT) hB6)).mono ?_
    rw [unhide HU2]
    rintro e w7 ⟨rfl, hb7⟩
    have hB7 := hB6.trans (hb7.mono hB6.size)
    go_wp2_with fail
    refine (text_v u cu (unhide HU1) (by omega) w7 (tabs_below (unhide HT) hB7)).mono ?_
    rintro e w8 ⟨x, rfl, hx, hb8⟩
    have hB8 := hB7.trans (hb8.mono hB7.size)
    obtain rfl := hx.2 (unhide HU2)
    clear hx
    go_wp2_with fail
    refine (text_v t ct (unhide HHT) (unhide HTZ) w8 (tabs_below (unhide HT) hB8)).mono ?_
    rintro e w9 ⟨y, rfl, hy, hb9⟩
    have hB9 := hB8.trans (hb9.mono hB8.size)
    have HWT := hide (fun w hT => well_v t ct (unhide HHT) (unhide HTZ) w hT)
    cases hall : allB ct with
    | true =>
      obtain rfl := hy.2 hall
      rw [hall] at HWT
      clear hy hall
      go_wp2_with fail
      refine (unhide HWT w9 (tabs_below (unhide HT) hB9)).mono ?_
      rintro e w10 ⟨rfl, hb10⟩
      have hB10 := hB9.trans (hb10.mono hB9.size)
      go_wp2_with fail
      refine (fromText_v _ (unhide HU3) (by omega) w10).mono ?_
      rintro e w11 ⟨rfl, hb11⟩
      have hB11 := hB10.trans (hb11.mono hB10.size)
      go_wp2
      go_ret
      exact ⟨by simp, hB11⟩
    | false =>
      have hyn : ¬ y.toList = t.toList := fun e => by
        have := hy.1 (toList_inj e); rw [hall] at this; cases this
      have hyn' : (y.toList == t.toList) = false := by simpa using hyn
      rw [hall] at HWT
      clear hy hall
      go_wp2_with fail
      refine (unhide HWT w9 (tabs_below (unhide HT) hB9)).mono ?_
      rintro e w10 ⟨rfl, hb10⟩
      have hB10 := hB9.trans (hb10.mono hB9.size)
      go_wp2_with fail
      refine (fromText_v _ (unhide HU3) (by omega) w10).mono ?_
      rintro e w11 ⟨rfl, hb11⟩
      have hB11 := hB10.trans (hb11.mono hB10.size)
      go_wp2
      go_ret
      exact ⟨by simp, hB11⟩
  | true =>
    refine (units_v s (unS s) hv rfl (by omega) (w3.drewN n4) (tabs_below (unhide HT) hB4)).mono ?_
    have HVS := hide (fun w hT => valid_v s true hv w hT)
    have HOK := hide (un_ok hv)
    clear hv
    have HSM := hide (unS_small s)
    have hul := unS_len s
    rintro e w5 ⟨v5, rfl, hr5, hb5⟩
    have hB5 := hB4.trans (hb5.mono hB4.size)
    have HR5 := hide hr5; clear hr5
    go_wp2_with fail
    refine (unhide HVS w5 (tabs_below (unhide HT) hB5)).mono ?_
    rintro e w5' ⟨rfl, hb5'⟩
    have hB5' := hB5.trans (hb5'.mono hB5.size)
    go_wp2_with fail
    refine (of_any v5 (unS s) (unhide HSM) (by omega) w5' ((unhide HR5).same hb5')).mono ?_
    rintro e w5'' ⟨so, rfl, hso, hb5''⟩
    have hB5'' := hB5'.trans (hb5''.mono hB5'.size)
    obtain rfl : so = s := nums_inj (hso.trans (unhide HOK).symm)
    clear hso
    go_wp2_with fail
    refine (fromText_any so (by omega) w5'').mono ?_
    rintro e w6 ⟨u, rfl, hu, hb6⟩
    have hB6 := hB5''.trans (hb6.mono hB5''.size)
    obtain ⟨hu1, hu2, hu3, hu4⟩ := ft_has hu
    have HU1 := hide hu1; have HU2 := hide hu2; have HU3 := hide hu3; clear hu hu1 hu2 hu3
    generalize M.runes (nums so) = cu at *
    go_wp2_with fail
    refine (well_v u cu (unhide HU1) (by omega) w6 (tabs_below (unhide HT) hB6)).mono ?_
    rw [unhide HU2]
    rintro e w7 ⟨rfl, hb7⟩
    have hB7 := hB6.trans (hb7.mono hB6.size)
    go_wp2_with fail
    refine (text_v u cu (unhide HU1) (by omega) w7 (tabs_below (unhide HT) hB7)).mono ?_
    rintro e w8 ⟨x, rfl, hx, hb8⟩
    have hB8 := hB7.trans (hb8.mono hB7.size)
    obtain rfl := hx.2 (unhide HU2)
    clear hx
    go_wp2_with fail
    refine (text_v t ct (unhide HHT) (unhide HTZ) w8 (tabs_below (unhide HT) hB8)).mono ?_
    rintro e w9 ⟨y, rfl, hy, hb9⟩
    have hB9 := hB8.trans (hb9.mono hB8.size)
    have HWT := hide (fun w hT => well_v t ct (unhide HHT) (unhide HTZ) w hT)
    cases hall : allB ct with
    | true =>
      obtain rfl := hy.2 hall
      rw [hall] at HWT
      clear hy hall
      go_wp2_with fail
      refine (unhide HWT w9 (tabs_below (unhide HT) hB9)).mono ?_
      rintro e w10 ⟨rfl, hb10⟩
      have hB10 := hB9.trans (hb10.mono hB9.size)
      go_wp2_with fail
      refine (fromText_v _ (unhide HU3) (by omega) w10).mono ?_
      rintro e w11 ⟨rfl, hb11⟩
      have hB11 := hB10.trans (hb11.mono hB10.size)
      go_wp2
      go_ret
      exact ⟨by simp, hB11⟩
    | false =>
      have hyn : ¬ y.toList = t.toList := fun e => by
        have := hy.1 (toList_inj e); rw [hall] at this; cases this
      have hyn' : (y.toList == t.toList) = false := by simpa using hyn
      rw [hall] at HWT
      clear hy hall
      go_wp2_with fail
      refine (unhide HWT w9 (tabs_below (unhide HT) hB9)).mono ?_
      rintro e w10 ⟨rfl, hb10⟩
      have hB10 := hB9.trans (hb10.mono hB9.size)
      go_wp2_with fail
      refine (fromText_v _ (unhide HU3) (by omega) w10).mono ?_
      rintro e w11 ⟨rfl, hb11⟩
      have hB11 := hB10.trans (hb11.mono hB10.size)
      go_wp2
      go_ret
      exact ⟨by simp, hB11⟩
end Go.Proofs.YtakenhaieblikaaDoor
