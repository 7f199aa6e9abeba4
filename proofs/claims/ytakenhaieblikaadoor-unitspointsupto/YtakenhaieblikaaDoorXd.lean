import Derived.Test.YtakenhaieblikaaDoorXc
namespace Go.Proofs.YtakenhaieblikaaDoor
open Go.RowKit Go.Shelf

/-- One code point, no surrogate. -/
def oneB : List Nat → Bool
  | [c] => !M.isSu c
  | _ => false
def u8B (s : ByteArray) : Bool := vS s && oneB (csS s)
theorem u8_iff (s : ByteArray) : u8B s = true ↔ ∃ c, M.sca c ∧ nums s = M.E c := by
  unfold u8B
  constructor
  · intro h
    rw [Bool.and_eq_true] at h
    have hh := csS_has h.1
    cases hc : csS s with
    | nil => rw [hc] at h; simp [oneB] at h
    | cons c r =>
      rw [hc] at h hh
      cases r with
      | cons d q => simp [oneB] at h
      | nil =>
        refine ⟨c, ⟨hh.2.1 c (by simp), ?_⟩, by rw [hh.1]; simp⟩
        have := h.2
        simp [oneB, M.isSu] at this
        omega
  · rintro ⟨c, hc, h⟩
    have hs : ∀ d ∈ [c], M.sca d := fun d hd => by simp at hd; subst hd; exact hc
    have hh : Has s [c] := ⟨by rw [h]; simp, fun d hd => (hs d hd).1, M.noPair_sca _ _ hs⟩
    have hv := hh.valid
    have e : csS s = [c] := M.flat_inj _ _ (csS_small s) hh.2.1 (by rw [← (csS_has hv).1, hh.1])
    rw [hv, e]
    have := hc.2
    simp [oneB, M.isSu]; omega

set_option maxHeartbeats 2000000 in
set_option maxRecDepth 100000 in
theorem utf8_any (s : ByteArray) (hsz : s.size ≤ 1099511627776) (w : World) :
    Calls Tryd.prog 49 #[.string s] w fun e w' => e = .returned (.bool (u8B s)) ∧ Below w.heap.size w w' := by
  have hr := read_any s hsz w
  have hl := rdL_len s
  have hv : rdB s = false ∧ vS s = false ∨ rdB s = true ∧ ((vS s = true ∧ M.ofL (rdL s) = nums s) ∨ (vS s = false ∧ M.ofL (rdL s) ≠ nums s)) := by
    unfold rdB rdL vS
    rcases M.valid_ref (nums s) (nums_lt s) with ⟨h1, u, h2, h3, _⟩ | ⟨h1, h2⟩
    · right; rw [h1, h2]; exact ⟨rfl, .inl ⟨rfl, h3⟩⟩
    · cases h : M.rd (nums s) with
      | none => left; exact ⟨rfl, h1⟩
      | some u => right; exact ⟨rfl, .inr ⟨h1, h2 u h⟩⟩
  have hsm := rdL_small s
  have hun : vS s = true → rdL s = unS s := fun h => by unfold unS; rw [h]; rfl
  have hbad : vS s = false → u8B s = false := fun h => by unfold u8B; rw [h]; rfl
  have hgood : vS s = true → u8B s = oneB (csS s) := fun h => by unfold u8B; rw [h]; rfl
  have HOF := hide (fun (v : Value) (w : World) (h : Reads w v (rdL s)) => refOf_any v (rdL s) hsm (by omega) w h)
  have HR := hide hr; clear hr hsm
  generalize hrb : rdB s = rb at *
  have HRB := hide hrb; clear hrb
  rcases hv with ⟨h1, h2⟩ | ⟨h1, hv⟩
  · subst h1
    rw [hbad h2]; clear h2 hbad hgood hun
    go_enter Tryd.func49, Tryd.ntmps49
    go_wp2_with fail
    refine (unhide HR).mono ?_
    rintro e w1 ⟨v, rfl, hown, hb⟩
    go_wp2
    go_ret
    exact ⟨rfl, hb⟩
  · subst h1
    rcases hv with ⟨h2, h3⟩ | ⟨h2, h3⟩
    · rw [hgood h2]
      have hrl := hun h2
      have HRO := hide (fun v w hR => rowC_any v s hsz w hR)
      have HRL := hide hrl
      have hcl := csS_len s
      have H3 := hide h3
      clear h2 h3 hbad hgood hun hrl
      generalize csS s = cs at *
      have hcase : cs = [] ∨ (∃ c, cs = [c]) ∨ (∃ c d r, cs = c :: d :: r) := by
        match cs with
        | [] => exact .inl rfl
        | [c] => exact .inr (.inl ⟨c, rfl⟩)
        | c :: d :: r => exact .inr (.inr ⟨c, d, r, rfl⟩)
      rcases hcase with rfl | ⟨c, rfl⟩ | ⟨c, d, r, rfl⟩
      · go_enter Tryd.func49, Tryd.ntmps49
        go_wp2_with fail
        refine (unhide HR).mono ?_
        rintro e w1 ⟨v, rfl, hown, hb⟩
        have HRD := hide (reads_own hown); clear hown
        go_wp2_with fail
        refine (unhide HOF v w1 (unhide HRD)).mono ?_
        rintro e w2 ⟨t, rfl, ht, hb2⟩
        have hB2 := hb.trans (hb2.mono hb.size)
        obtain rfl : t = s := nums_inj (ht.trans (unhide H3))
        clear ht
        go_wp2_with fail
        refine (unhide HRO v w2 (by rw [← unhide HRL]; exact (unhide HRD).same hb2)).mono ?_
        rintro e w3 ⟨A, cap, rfl, hA, hb3⟩
        have hB3 := hB2.trans (hb3.mono hB2.size)
        clear hA
        go_wp2
        go_ret
        exact ⟨rfl, hB3⟩
      · have hone : oneB [c] = !M.isSu c := rfl
        rw [hone]
        clear hone
        unfold M.isSu
        by_cases h1 : c < 55296
        · have h1' : (c : Int) < 55296 := by omega
          have hob : (!(decide (55296 ≤ c) && decide (c ≤ 57343))) = true := by simp; omega
          rw [hob]
          go_enter Tryd.func49, Tryd.ntmps49
          go_wp2_with fail
          refine (unhide HR).mono ?_
          rintro e w1 ⟨v, rfl, hown, hb⟩
          have HRD := hide (reads_own hown); clear hown
          go_wp2_with fail
          refine (unhide HOF v w1 (unhide HRD)).mono ?_
          rintro e w2 ⟨t, rfl, ht, hb2⟩
          have hB2 := hb.trans (hb2.mono hb.size)
          obtain rfl : t = s := nums_inj (ht.trans (unhide H3))
          clear ht
          go_wp2_with fail
          refine (unhide HRO v w2 (by rw [← unhide HRL]; exact (unhide HRD).same hb2)).mono ?_
          rintro e w3 ⟨A, cap, rfl, hA, hb3⟩
          have hB3 := hB2.trans (hb3.mono hB2.size)
          obtain ⟨g, rfl, hg, hcell⟩ := hA 0 (by simp)
          have hcell' : w3.cell? ⟨g, 1, none⟩ = some (.int .i64 (c : Nat)) := by simpa using hcell
          clear hcell hA
          go_wp2
          go_ret
          exact ⟨rfl, hB3⟩
        · have h1' : ¬ (c : Int) < 55296 := by omega
          by_cases h2 : 57343 < c
          · have h2' : (57343 : Int) < (c : Int) := by omega
            have hob : (!(decide (55296 ≤ c) && decide (c ≤ 57343))) = true := by simp; omega
            rw [hob]
            go_enter Tryd.func49, Tryd.ntmps49
            go_wp2_with fail
            refine (unhide HR).mono ?_
            rintro e w1 ⟨v, rfl, hown, hb⟩
            have HRD := hide (reads_own hown); clear hown
            go_wp2_with fail
            refine (unhide HOF v w1 (unhide HRD)).mono ?_
            rintro e w2 ⟨t, rfl, ht, hb2⟩
            have hB2 := hb.trans (hb2.mono hb.size)
            obtain rfl : t = s := nums_inj (ht.trans (unhide H3))
            clear ht
            go_wp2_with fail
            refine (unhide HRO v w2 (by rw [← unhide HRL]; exact (unhide HRD).same hb2)).mono ?_
            rintro e w3 ⟨A, cap, rfl, hA, hb3⟩
            have hB3 := hB2.trans (hb3.mono hB2.size)
            obtain ⟨g, rfl, hg, hcell⟩ := hA 0 (by simp)
            have hcell' : w3.cell? ⟨g, 1, none⟩ = some (.int .i64 (c : Nat)) := by simpa using hcell
            clear hcell hA
            go_wp2
            go_ret
            exact ⟨rfl, hB3⟩
          · have h2' : ¬ (57343 : Int) < (c : Int) := by omega
            have hob : (!(decide (55296 ≤ c) && decide (c ≤ 57343))) = false := by simp; omega
            rw [hob]
            go_enter Tryd.func49, Tryd.ntmps49
            go_wp2_with fail
            refine (unhide HR).mono ?_
            rintro e w1 ⟨v, rfl, hown, hb⟩
            have HRD := hide (reads_own hown); clear hown
            go_wp2_with fail
            refine (unhide HOF v w1 (unhide HRD)).mono ?_
            rintro e w2 ⟨t, rfl, ht, hb2⟩
            have hB2 := hb.trans (hb2.mono hb.size)
            obtain rfl : t = s := nums_inj (ht.trans (unhide H3))
            clear ht
            go_wp2_with fail
            refine (unhide HRO v w2 (by rw [← unhide HRL]; exact (unhide HRD).same hb2)).mono ?_
            rintro e w3 ⟨A, cap, rfl, hA, hb3⟩
            have hB3 := hB2.trans (hb3.mono hB2.size)
            obtain ⟨g, rfl, hg, hcell⟩ := hA 0 (by simp)
            have hcell' : w3.cell? ⟨g, 1, none⟩ = some (.int .i64 (c : Nat)) := by simpa using hcell
            clear hcell hA
            go_wp2
            go_ret
            exact ⟨by simp; omega, hB3⟩
      · have hone : oneB (c :: d :: r) = false := rfl
        rw [hone]
        clear hone
        obtain ⟨q, hq, hq2⟩ : ∃ q, (c :: d :: r).length = q ∧ 2 ≤ q := ⟨_, rfl, by simp⟩
        rw [hq] at HRO hcl
        have hn1 : ¬ (q : Int) = 1 := by omega
        have hn2 : ((q : Int) == 1) = false := by simpa using hn1
        go_enter Tryd.func49, Tryd.ntmps49
        go_wp2_with fail
        refine (unhide HR).mono ?_
        rintro e w1 ⟨v, rfl, hown, hb⟩
        have HRD := hide (reads_own hown); clear hown
        go_wp2_with fail
        refine (unhide HOF v w1 (unhide HRD)).mono ?_
        rintro e w2 ⟨t, rfl, ht, hb2⟩
        have hB2 := hb.trans (hb2.mono hb.size)
        obtain rfl : t = s := nums_inj (ht.trans (unhide H3))
        clear ht
        go_wp2_with fail
        refine (unhide HRO v w2 (by rw [← unhide HRL]; exact (unhide HRD).same hb2)).mono ?_
        rintro e w3 ⟨A, cap, rfl, hA, hb3⟩
        have hB3 := hB2.trans (hb3.mono hB2.size)
        clear hA
        go_wp2
        go_ret
        exact ⟨rfl, hB3⟩
    · rw [hbad h2]
      have H3 := hide h3
      clear h2 h3 hbad hgood hun
      go_enter Tryd.func49, Tryd.ntmps49
      go_wp2_with fail
      refine (unhide HR).mono ?_
      rintro e w1 ⟨v, rfl, hown, hb⟩
      have HRD := hide (reads_own hown); clear hown
      go_wp2_with fail
      refine (unhide HOF v w1 (unhide HRD)).mono ?_
      rintro e w2 ⟨t, rfl, ht, hb2⟩
      have hB2 := hb.trans (hb2.mono hb.size)
      have hts : ¬ t.toList = s.toList := fun e => unhide H3 (ht.symm.trans (congrArg nums (toList_inj e)))
      have hts' : (t.toList == s.toList) = false := by simpa using hts
      clear ht
      go_wp2
      go_ret
      exact ⟨rfl, hB2⟩
end Go.Proofs.YtakenhaieblikaaDoor
