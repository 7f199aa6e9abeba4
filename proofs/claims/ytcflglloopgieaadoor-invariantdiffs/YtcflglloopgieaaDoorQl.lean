import Derived.Test.YtcflglloopgieaaDoorQk

/-! Im -/
namespace Go.Proofs.YtcflglloopgieaaDoor
open Go Go.Proofs Go.Maps Go.RowKit FM
set_option linter.unusedSimpArgs false
set_option linter.unusedVariables false
set_option maxHeartbeats 1000000
def anyP (bp : List PR → Nat → Bool) (ps : List PR) : Bool := (List.range ps.length).any (bp ps)
def anyS (bp : List PR → Nat → Bool) (l : List SH) : Bool := l.any (fun s => anyP bp s.ps)
theorem anyS_yes {bp : List PR → Nat → Bool} {l : List SH} {i k : Nat} {s : SH} (hs : l[i]? = some s) (hk : k < s.ps.length) (h : bp s.ps k = true) : anyS bp l = true := by
  unfold anyS
  rw [List.any_eq_true]
  refine ⟨s, List.mem_of_getElem? hs, ?_⟩
  unfold anyP
  rw [List.any_eq_true]
  exact ⟨k, List.mem_range.2 hk, h⟩
def NoI (bp : List PR → Nat → Bool) (ps : List PR) (k : Nat) : Prop := ∀ j, j < k → bp ps j = false
theorem NoI.zero (bp : List PR → Nat → Bool) (ps : List PR) : NoI bp ps 0 := fun j hj => absurd hj (Nat.not_lt_zero _)
theorem NoI.step {bp : List PR → Nat → Bool} {ps : List PR} {i : Nat} (h : NoI bp ps i) (hk : bp ps i = false) : NoI bp ps (i + 1) := fun j hj => by
  rcases Nat.lt_succ_iff_lt_or_eq.1 hj with h1 | h1
  · exact h j h1
  · subst h1
    exact hk
theorem anyP_no {bp : List PR → Nat → Bool} {ps : List PR} (h : NoI bp ps ps.length) : anyP bp ps = false := by
  unfold anyP
  rw [List.any_eq_false]
  intro j hj
  rw [h j (List.mem_range.1 hj)]
  simp
def NoS (bp : List PR → Nat → Bool) (l : List SH) (i : Nat) : Prop := ∀ (j : Nat) (s : SH), j < i → l[j]? = some s → anyP bp s.ps = false
theorem NoS.zero (bp : List PR → Nat → Bool) (l : List SH) : NoS bp l 0 := fun j s hj => absurd hj (Nat.not_lt_zero _)
theorem NoS.step {bp : List PR → Nat → Bool} {l : List SH} {i : Nat} {s : SH} (h : NoS bp l i) (hs : l[i]? = some s) (hk : anyP bp s.ps = false) : NoS bp l (i + 1) := fun j r hj hr => by
  rcases Nat.lt_succ_iff_lt_or_eq.1 hj with h1 | h1
  · exact h j r h1 hr
  · subst h1
    rw [hs] at hr
    cases hr
    exact hk
theorem anyS_no {bp : List PR → Nat → Bool} {l : List SH} (h : NoS bp l l.length) : anyS bp l = false := by
  unfold anyS
  rw [List.any_eq_false]
  intro x hx
  obtain ⟨j, hj⟩ := List.getElem?_of_mem hx
  rw [h j x (List.getElem?_eq_some_iff.1 hj).1 hj]
  simp
/-- A key that stands there already. -/
def dupAt (ps : List PR) (k : Nat) : Bool := match ps[k]? with
  | none => false
  | some p => decide (fO ps p.k ≠ some k)
def badD (ps : List PR) (k : Nat) : Bool := match ps[k]? with
  | none => false
  | some p => !(chkV p.d == 0 && wholeV p.d)
def twV (l : List SH) : Bool := anyS dupAt l
def plV (l : List SH) : Bool := !anyS badD l && !twV l
theorem dup_fI {ps : List PR} {k : Nat} {p : PR} (hp : ps[k]? = some p) : (fI ps p.k != (k : Int)) = dupAt ps k := by
  obtain ⟨j, hj, hjk⟩ := fO_mem hp
  rw [fI_fO]
  simp only [dupAt, hp, hj, oI]
  by_cases e : j = k <;> simp [e]
  omega
set_option maxHeartbeats 2000000 in
set_option maxRecDepth 100000 in
theorem twice_any (A : Option Addr) (cap : Nat) (l : List SH) (w : World) (hR : ReadsS w A l) (hz : l.length ≤ 100000) : Calls Tryd.prog 25 #[.slice A l.length cap] w fun e w' => e = .returned (.bool (twV l)) ∧ Below w.heap.size w w' := by
  have LL := hide (Hq.nil w [])
  have HR := hide hR
  have HZ := hide hz
  clear hR hz
  go_enter Tryd.func25, Tryd.ntmps25
  go_wp2_with (first | go_skip | ((with_reducible show wpList _ _ _ _ _ _); first | ((refine rd (by rfl) (ex_lenG 22 50 Tryd.underlying22 rfl rfl) ?_); simp only [Act.put, List.setIfInBounds_toArray, List.set_cons_succ, List.set_cons_zero])))
  go_loopg [3] l.length (fun gm s3 wr => ∃ i : Nat, s3 = .int .i64 (i : Nat) ∧ i ≤ l.length ∧ l.length - i ≤ gm ∧ Hid (NoS dupAt l i) ∧ Hid (Hq w wr [] []))
  case atStart => exact ⟨0, rfl, by omega, by omega, hide (NoS.zero _ _), LL⟩
  case round =>
    clear LL
    obtain ⟨i, rfl, hil, hgm, HD, LL⟩ := hrel
    by_cases hlt : i < l.length
    · have dlt : decide ((i : Int) < (l.length : Int)) = true := decide_eq_true (by omega)
      have hw1 : IntKind.i64.wrap ((i : Int) + 1) = (i : Int) + 1 := by have := unhide HZ; rw [IntKind.wrap_i64]; omega
      obtain ⟨s, hs⟩ : ∃ s, l[i]? = some s := ⟨_, List.getElem?_eq_getElem hlt⟩
      obtain ⟨_, hsl, b, off, SA, sc, hA, hb, hrp, hrg⟩ := (unhide HR) i s hs
      have HA := hide hA
      have H7 : Hid (∀ X, Fr w X [] → X.cell? ⟨b, off + i * 8 + 7, none⟩ = some (.slice SA s.ps.length sc)) := hide (fun X hX => r7 (rangeAt_fr hrg hb hX))
      have HP := hide hrp
      have HSL := hide hsl
      have HS := hide hs
      have HLT := hide hlt
      clear hA hb hrg hrp hsl hs hlt hil
      go_wp2_with (first | go_skip | ((with_reducible show wpList _ _ _ _ _ _); first | ((refine rd (by rfl) (ex_lenG 22 50 Tryd.underlying22 rfl rfl) ?_); simp only [Act.put, List.setIfInBounds_toArray, List.set_cons_succ, List.set_cons_zero]) | ((refine rd (by rfl) (ex_indexA 22 8 i unSs idSs rfl rfl (unhide HA) rfl (unhide HLT)) ?_); simp only [Act.put, List.setIfInBounds_toArray, List.set_cons_succ, List.set_cons_zero]) | ((refine rd (by rfl) (ex_loadC 48 Tryd.isAgg48 rfl rfl (unhide H7 _ (unhide LL).fr)) ?_); simp only [Act.put, List.setIfInBounds_toArray, List.set_cons_succ, List.set_cons_zero]) | ((refine rd (by rfl) (ex_lenG 48 55 Tryd.underlying48 rfl rfl) ?_); simp only [Act.put, List.setIfInBounds_toArray, List.set_cons_succ, List.set_cons_zero])))
      obtain ⟨w2, hw2⟩ : ∃ w2, w2 = wr := ⟨_, rfl⟩
      subst hw2
      try simp only [decide_eq_true (unhide HLT)]
      go_loopg [4] s.ps.length (fun gm s4 wr => ∃ k : Nat, s4 = .int .i64 (k : Nat) ∧ k ≤ s.ps.length ∧ s.ps.length - k ≤ gm ∧ Hid (NoI dupAt s.ps k) ∧ Hid (Hq w wr [] []))
      case atStart => exact ⟨0, rfl, by omega, by omega, hide (NoI.zero _ _), LL⟩
      case round =>
        clear LL
        obtain ⟨k, rfl, hkl, hgm2, HE, LL⟩ := hrel
        by_cases hkt : k < s.ps.length
        · have dkt : decide ((k : Int) < (s.ps.length : Int)) = true := decide_eq_true (by omega)
          have hwk : IntKind.i64.wrap ((k : Int) + 1) = (k : Int) + 1 := by have := unhide HSL; rw [IntKind.wrap_i64]; omega
          obtain ⟨p, hp⟩ : ∃ p, s.ps[k]? = some p := ⟨_, List.getElem?_eq_getElem hkt⟩
          obtain ⟨hok, b2, off2, hB, hb2, hrg2⟩ := (unhide HP) k p hp
          have HB := hide hB
          have HB2 : Hid (∀ X, Fr w X [] → X.rangeAt b2 (off2 + k * 20 + 2) p.d.cs) := hide (fun X hX => range_right (a := p.k.cs) (c := p.d.cs) (rangeAt_fr hrg2 hb2 hX))
          have HKT := hide hkt
          have hd := dup_fI hp
          clear hkl
          cases hdu : dupAt s.ps k
          · rw [hdu] at hd
            have HE2 := hide ((unhide HE).step hdu)
            clear hdu HE hp hok
            go_wp2_with (first | go_skip | ((with_reducible show wpList _ _ _ _ _ _); first | ((refine rd (by rfl) (ex_lenG 22 50 Tryd.underlying22 rfl rfl) ?_); simp only [Act.put, List.setIfInBounds_toArray, List.set_cons_succ, List.set_cons_zero]) | ((refine rd (by rfl) (ex_indexA 22 8 i unSs idSs rfl rfl (unhide HA) rfl (unhide HLT)) ?_); simp only [Act.put, List.setIfInBounds_toArray, List.set_cons_succ, List.set_cons_zero]) | ((refine rd (by rfl) (ex_loadC 48 Tryd.isAgg48 rfl rfl (unhide H7 _ (unhide LL).fr)) ?_); simp only [Act.put, List.setIfInBounds_toArray, List.set_cons_succ, List.set_cons_zero]) | ((refine rd (by rfl) (ex_lenG 48 55 Tryd.underlying48 rfl rfl) ?_); simp only [Act.put, List.setIfInBounds_toArray, List.set_cons_succ, List.set_cons_zero])))
            have hq0 : Hq w _ [] [] := (unhide LL).drew
            have hFI := find_any SA sc s.ps p.k _ ((unhide HP).fr hq0.fr) (unhide HSL)
            rw [kagg] at hFI
            refine wp_region_held_drew (P := Tryd.prog) (S := fun X => Hq w X [] []) (by kernel_rfl) hq0 (fun hS0 => ?_)
            refine gsem 0 (some 21) (.slice A l.length cap) rfl (by kernel_rfl) (by kernel_rfl) (by kernel_rfl) (fun _ _ _ h => h) (by kernel_rfl) (by kernel_rfl) (fun _ _ => by kernel_rfl) hq0 ?_
            simp only [Act.put, List.setIfInBounds_toArray, List.set_cons_succ, List.set_cons_zero]
            refine gsem 1 (some 22) (.int .i64 (i : Nat)) rfl (by kernel_rfl) (by kernel_rfl) (by kernel_rfl) (fun _ _ _ h => h) (by kernel_rfl) (by kernel_rfl) (fun _ _ => by kernel_rfl) hq0 ?_
            simp only [Act.put, List.setIfInBounds_toArray, List.set_cons_succ, List.set_cons_zero]
            refine gsem 2 (some 23) (.pointer (some ⟨b, off + i * 8, none⟩)) rfl (by kernel_rfl) (by kernel_rfl) (by kernel_rfl) (fun _ _ _ h => h) (by kernel_rfl) (by kernel_rfl) (fun X hX => ex_indexA 22 8 i unSs idSs rfl rfl (unhide HA) rfl (unhide HLT)) hq0 ?_
            simp only [Act.put, List.setIfInBounds_toArray, List.set_cons_succ, List.set_cons_zero]
            refine gsem 3 (some 24) (.pointer (some ⟨b, off + i * 8 + 7, none⟩)) rfl (by kernel_rfl) (by kernel_rfl) (by kernel_rfl) (fun _ _ _ h => h) (by kernel_rfl) (by kernel_rfl) (fun _ _ => by kernel_rfl) hq0 ?_
            simp only [Act.put, List.setIfInBounds_toArray, List.set_cons_succ, List.set_cons_zero]
            refine gsem 4 (some 25) (.slice SA s.ps.length sc) rfl (by kernel_rfl) (by kernel_rfl) (by kernel_rfl) (fun _ _ _ h => h) (by kernel_rfl) (by kernel_rfl) (fun X hX => ex_loadC 48 Tryd.isAgg48 rfl rfl (unhide H7 _ hX.fr)) hq0 ?_
            simp only [Act.put, List.setIfInBounds_toArray, List.set_cons_succ, List.set_cons_zero]
            refine gsem 5 (some 26) (.slice A l.length cap) rfl (by kernel_rfl) (by kernel_rfl) (by kernel_rfl) (fun _ _ _ h => h) (by kernel_rfl) (by kernel_rfl) (fun _ _ => by kernel_rfl) hq0 ?_
            simp only [Act.put, List.setIfInBounds_toArray, List.set_cons_succ, List.set_cons_zero]
            refine gsem 6 (some 27) (.int .i64 (i : Nat)) rfl (by kernel_rfl) (by kernel_rfl) (by kernel_rfl) (fun _ _ _ h => h) (by kernel_rfl) (by kernel_rfl) (fun _ _ => by kernel_rfl) hq0 ?_
            simp only [Act.put, List.setIfInBounds_toArray, List.set_cons_succ, List.set_cons_zero]
            refine gsem 7 (some 28) (.pointer (some ⟨b, off + i * 8, none⟩)) rfl (by kernel_rfl) (by kernel_rfl) (by kernel_rfl) (fun _ _ _ h => h) (by kernel_rfl) (by kernel_rfl) (fun X hX => ex_indexA 22 8 i unSs idSs rfl rfl (unhide HA) rfl (unhide HLT)) hq0 ?_
            simp only [Act.put, List.setIfInBounds_toArray, List.set_cons_succ, List.set_cons_zero]
            refine gsem 8 (some 29) (.pointer (some ⟨b, off + i * 8 + 7, none⟩)) rfl (by kernel_rfl) (by kernel_rfl) (by kernel_rfl) (fun _ _ _ h => h) (by kernel_rfl) (by kernel_rfl) (fun _ _ => by kernel_rfl) hq0 ?_
            simp only [Act.put, List.setIfInBounds_toArray, List.set_cons_succ, List.set_cons_zero]
            refine gsem 9 (some 30) (.slice SA s.ps.length sc) rfl (by kernel_rfl) (by kernel_rfl) (by kernel_rfl) (fun _ _ _ h => h) (by kernel_rfl) (by kernel_rfl) (fun X hX => ex_loadC 48 Tryd.isAgg48 rfl rfl (unhide H7 _ hX.fr)) hq0 ?_
            simp only [Act.put, List.setIfInBounds_toArray, List.set_cons_succ, List.set_cons_zero]
            refine gsem 10 (some 31) (.int .i64 (k : Nat)) rfl (by kernel_rfl) (by kernel_rfl) (by kernel_rfl) (fun _ _ _ h => h) (by kernel_rfl) (by kernel_rfl) (fun _ _ => by kernel_rfl) hq0 ?_
            simp only [Act.put, List.setIfInBounds_toArray, List.set_cons_succ, List.set_cons_zero]
            refine gsem 11 (some 32) (.pointer (some ⟨b2, off2 + k * 20, none⟩)) rfl (by kernel_rfl) (by kernel_rfl) (by kernel_rfl) (fun _ _ _ h => h) (by kernel_rfl) (by kernel_rfl) (fun X hX => ex_indexA 48 20 k unPs idPs rfl rfl (unhide HB) rfl hkt) hq0 ?_
            simp only [Act.put, List.setIfInBounds_toArray, List.set_cons_succ, List.set_cons_zero]
            refine gsem 12 (some 33) (.pointer (some ⟨b2, off2 + k * 20, none⟩)) rfl (by kernel_rfl) (by kernel_rfl) (by kernel_rfl) (fun _ _ _ h => h) (by kernel_rfl) (by kernel_rfl) (fun _ _ => by kernel_rfl) hq0 ?_
            simp only [Act.put, List.setIfInBounds_toArray, List.set_cons_succ, List.set_cons_zero]
            refine gsem 13 (some 34) (.agg p.k.cs.toArray) rfl (by kernel_rfl) (by kernel_rfl) (by kernel_rfl) (fun _ _ _ h => h) (by kernel_rfl) (by kernel_rfl) (fun X hX => ex_loadR (vs := p.k.cs) 38 2 rwK szK rfl rfl (range_left (a := p.k.cs) (c := p.d.cs) (rangeAt_fr hrg2 hb2 hX.fr)) rfl) hq0 ?_
            simp only [Act.put, List.setIfInBounds_toArray, List.set_cons_succ, List.set_cons_zero]
            refine gsem 15 (some 36) (.int .i64 (k : Nat)) rfl (by kernel_rfl) (by kernel_rfl) (by kernel_rfl) (fun _ _ _ h => h) (by kernel_rfl) (by kernel_rfl) (fun _ _ => by kernel_rfl) hq0 ?_
            simp only [Act.put, List.setIfInBounds_toArray, List.set_cons_succ, List.set_cons_zero]
            refine wpAnyH_ready (rs := [14]) (by kernel_rfl) (by simp) (gcallR 14 (some 35) rfl (by kernel_rfl) (by kernel_rfl) (by kernel_rfl) (hFI) ?_ AllReadyH.nil)
            rintro e Y5 ⟨rfl, hY5⟩
            have hq05 := Hq.on hq0 hY5
            refine ⟨_, rfl, hq05, ?_⟩
            simp only [Act.put, List.setIfInBounds_toArray, List.set_cons_succ, List.set_cons_zero]
            refine gsem 16 (some 37) (.bool false) rfl (by kernel_rfl) (by kernel_rfl) (by kernel_rfl) (fun _ _ _ h => h) (by kernel_rfl) (by kernel_rfl) (fun X hX => ex_neI rfl rfl rfl hd) hq05 ?_
            simp only [Act.put, List.setIfInBounds_toArray, List.set_cons_succ, List.set_cons_zero]
            refine wpAnyH_done (by kernel_rfl) ?_ _
            try simp only [Act.put, List.setIfInBounds_toArray, List.set_cons_succ, List.set_cons_zero]
            replace LL := hide hq05
            clear hq0 hq05 hS0 hY5 hFI hb2 hrg2 hd hkt hB
            go_wp2
            go_roundg (s.ps.length - (k + 1))
            case measure => have := unhide HKT; omega
            case rel => exact ⟨k + 1, by go_num, by have := unhide HKT; omega, by omega, HE2, LL⟩
          · rw [hdu] at hd
            have HF := hide (anyS_yes (unhide HS) hkt hdu)
            clear hdu HE HD hp hok
            go_wp2_with (first | go_skip | ((with_reducible show wpList _ _ _ _ _ _); first | ((refine rd (by rfl) (ex_lenG 22 50 Tryd.underlying22 rfl rfl) ?_); simp only [Act.put, List.setIfInBounds_toArray, List.set_cons_succ, List.set_cons_zero]) | ((refine rd (by rfl) (ex_indexA 22 8 i unSs idSs rfl rfl (unhide HA) rfl (unhide HLT)) ?_); simp only [Act.put, List.setIfInBounds_toArray, List.set_cons_succ, List.set_cons_zero]) | ((refine rd (by rfl) (ex_loadC 48 Tryd.isAgg48 rfl rfl (unhide H7 _ (unhide LL).fr)) ?_); simp only [Act.put, List.setIfInBounds_toArray, List.set_cons_succ, List.set_cons_zero]) | ((refine rd (by rfl) (ex_lenG 48 55 Tryd.underlying48 rfl rfl) ?_); simp only [Act.put, List.setIfInBounds_toArray, List.set_cons_succ, List.set_cons_zero])))
            have hq0 : Hq w _ [] [] := (unhide LL).drew
            have hFI := find_any SA sc s.ps p.k _ ((unhide HP).fr hq0.fr) (unhide HSL)
            rw [kagg] at hFI
            refine wp_region_held_drew (P := Tryd.prog) (S := fun X => Hq w X [] []) (by kernel_rfl) hq0 (fun hS0 => ?_)
            refine gsem 0 (some 21) (.slice A l.length cap) rfl (by kernel_rfl) (by kernel_rfl) (by kernel_rfl) (fun _ _ _ h => h) (by kernel_rfl) (by kernel_rfl) (fun _ _ => by kernel_rfl) hq0 ?_
            simp only [Act.put, List.setIfInBounds_toArray, List.set_cons_succ, List.set_cons_zero]
            refine gsem 1 (some 22) (.int .i64 (i : Nat)) rfl (by kernel_rfl) (by kernel_rfl) (by kernel_rfl) (fun _ _ _ h => h) (by kernel_rfl) (by kernel_rfl) (fun _ _ => by kernel_rfl) hq0 ?_
            simp only [Act.put, List.setIfInBounds_toArray, List.set_cons_succ, List.set_cons_zero]
            refine gsem 2 (some 23) (.pointer (some ⟨b, off + i * 8, none⟩)) rfl (by kernel_rfl) (by kernel_rfl) (by kernel_rfl) (fun _ _ _ h => h) (by kernel_rfl) (by kernel_rfl) (fun X hX => ex_indexA 22 8 i unSs idSs rfl rfl (unhide HA) rfl (unhide HLT)) hq0 ?_
            simp only [Act.put, List.setIfInBounds_toArray, List.set_cons_succ, List.set_cons_zero]
            refine gsem 3 (some 24) (.pointer (some ⟨b, off + i * 8 + 7, none⟩)) rfl (by kernel_rfl) (by kernel_rfl) (by kernel_rfl) (fun _ _ _ h => h) (by kernel_rfl) (by kernel_rfl) (fun _ _ => by kernel_rfl) hq0 ?_
            simp only [Act.put, List.setIfInBounds_toArray, List.set_cons_succ, List.set_cons_zero]
            refine gsem 4 (some 25) (.slice SA s.ps.length sc) rfl (by kernel_rfl) (by kernel_rfl) (by kernel_rfl) (fun _ _ _ h => h) (by kernel_rfl) (by kernel_rfl) (fun X hX => ex_loadC 48 Tryd.isAgg48 rfl rfl (unhide H7 _ hX.fr)) hq0 ?_
            simp only [Act.put, List.setIfInBounds_toArray, List.set_cons_succ, List.set_cons_zero]
            refine gsem 5 (some 26) (.slice A l.length cap) rfl (by kernel_rfl) (by kernel_rfl) (by kernel_rfl) (fun _ _ _ h => h) (by kernel_rfl) (by kernel_rfl) (fun _ _ => by kernel_rfl) hq0 ?_
            simp only [Act.put, List.setIfInBounds_toArray, List.set_cons_succ, List.set_cons_zero]
            refine gsem 6 (some 27) (.int .i64 (i : Nat)) rfl (by kernel_rfl) (by kernel_rfl) (by kernel_rfl) (fun _ _ _ h => h) (by kernel_rfl) (by kernel_rfl) (fun _ _ => by kernel_rfl) hq0 ?_
            simp only [Act.put, List.setIfInBounds_toArray, List.set_cons_succ, List.set_cons_zero]
            refine gsem 7 (some 28) (.pointer (some ⟨b, off + i * 8, none⟩)) rfl (by kernel_rfl) (by kernel_rfl) (by kernel_rfl) (fun _ _ _ h => h) (by kernel_rfl) (by kernel_rfl) (fun X hX => ex_indexA 22 8 i unSs idSs rfl rfl (unhide HA) rfl (unhide HLT)) hq0 ?_
            simp only [Act.put, List.setIfInBounds_toArray, List.set_cons_succ, List.set_cons_zero]
            refine gsem 8 (some 29) (.pointer (some ⟨b, off + i * 8 + 7, none⟩)) rfl (by kernel_rfl) (by kernel_rfl) (by kernel_rfl) (fun _ _ _ h => h) (by kernel_rfl) (by kernel_rfl) (fun _ _ => by kernel_rfl) hq0 ?_
            simp only [Act.put, List.setIfInBounds_toArray, List.set_cons_succ, List.set_cons_zero]
            refine gsem 9 (some 30) (.slice SA s.ps.length sc) rfl (by kernel_rfl) (by kernel_rfl) (by kernel_rfl) (fun _ _ _ h => h) (by kernel_rfl) (by kernel_rfl) (fun X hX => ex_loadC 48 Tryd.isAgg48 rfl rfl (unhide H7 _ hX.fr)) hq0 ?_
            simp only [Act.put, List.setIfInBounds_toArray, List.set_cons_succ, List.set_cons_zero]
            refine gsem 10 (some 31) (.int .i64 (k : Nat)) rfl (by kernel_rfl) (by kernel_rfl) (by kernel_rfl) (fun _ _ _ h => h) (by kernel_rfl) (by kernel_rfl) (fun _ _ => by kernel_rfl) hq0 ?_
            simp only [Act.put, List.setIfInBounds_toArray, List.set_cons_succ, List.set_cons_zero]
            refine gsem 11 (some 32) (.pointer (some ⟨b2, off2 + k * 20, none⟩)) rfl (by kernel_rfl) (by kernel_rfl) (by kernel_rfl) (fun _ _ _ h => h) (by kernel_rfl) (by kernel_rfl) (fun X hX => ex_indexA 48 20 k unPs idPs rfl rfl (unhide HB) rfl hkt) hq0 ?_
            simp only [Act.put, List.setIfInBounds_toArray, List.set_cons_succ, List.set_cons_zero]
            refine gsem 12 (some 33) (.pointer (some ⟨b2, off2 + k * 20, none⟩)) rfl (by kernel_rfl) (by kernel_rfl) (by kernel_rfl) (fun _ _ _ h => h) (by kernel_rfl) (by kernel_rfl) (fun _ _ => by kernel_rfl) hq0 ?_
            simp only [Act.put, List.setIfInBounds_toArray, List.set_cons_succ, List.set_cons_zero]
            refine gsem 13 (some 34) (.agg p.k.cs.toArray) rfl (by kernel_rfl) (by kernel_rfl) (by kernel_rfl) (fun _ _ _ h => h) (by kernel_rfl) (by kernel_rfl) (fun X hX => ex_loadR (vs := p.k.cs) 38 2 rwK szK rfl rfl (range_left (a := p.k.cs) (c := p.d.cs) (rangeAt_fr hrg2 hb2 hX.fr)) rfl) hq0 ?_
            simp only [Act.put, List.setIfInBounds_toArray, List.set_cons_succ, List.set_cons_zero]
            refine gsem 15 (some 36) (.int .i64 (k : Nat)) rfl (by kernel_rfl) (by kernel_rfl) (by kernel_rfl) (fun _ _ _ h => h) (by kernel_rfl) (by kernel_rfl) (fun _ _ => by kernel_rfl) hq0 ?_
            simp only [Act.put, List.setIfInBounds_toArray, List.set_cons_succ, List.set_cons_zero]
            refine wpAnyH_ready (rs := [14]) (by kernel_rfl) (by simp) (gcallR 14 (some 35) rfl (by kernel_rfl) (by kernel_rfl) (by kernel_rfl) (hFI) ?_ AllReadyH.nil)
            rintro e Y5 ⟨rfl, hY5⟩
            have hq05 := Hq.on hq0 hY5
            refine ⟨_, rfl, hq05, ?_⟩
            simp only [Act.put, List.setIfInBounds_toArray, List.set_cons_succ, List.set_cons_zero]
            refine gsem 16 (some 37) (.bool true) rfl (by kernel_rfl) (by kernel_rfl) (by kernel_rfl) (fun _ _ _ h => h) (by kernel_rfl) (by kernel_rfl) (fun X hX => ex_neI rfl rfl rfl hd) hq05 ?_
            simp only [Act.put, List.setIfInBounds_toArray, List.set_cons_succ, List.set_cons_zero]
            refine wpAnyH_done (by kernel_rfl) ?_ _
            try simp only [Act.put, List.setIfInBounds_toArray, List.set_cons_succ, List.set_cons_zero]
            replace LL := hide hq05
            clear hq0 hq05 hS0 hY5 hFI hb2 hrg2 hd hkt hB
            go_wp2
            go_ret
            exact ⟨by rw [twV, unhide HF]; rfl, (unhide LL).fr.below⟩
        · obtain rfl : k = s.ps.length := by omega
          have HD2 := hide ((unhide HD).step (unhide HS) (anyP_no (unhide HE)))
          clear hkt hkl HD HE
          go_wp2_with (first | go_skip | ((with_reducible show wpList _ _ _ _ _ _); first | ((refine rd (by rfl) (ex_lenG 22 50 Tryd.underlying22 rfl rfl) ?_); simp only [Act.put, List.setIfInBounds_toArray, List.set_cons_succ, List.set_cons_zero]) | ((refine rd (by rfl) (ex_indexA 22 8 i unSs idSs rfl rfl (unhide HA) rfl (unhide HLT)) ?_); simp only [Act.put, List.setIfInBounds_toArray, List.set_cons_succ, List.set_cons_zero]) | ((refine rd (by rfl) (ex_loadC 48 Tryd.isAgg48 rfl rfl (unhide H7 _ (unhide LL).fr)) ?_); simp only [Act.put, List.setIfInBounds_toArray, List.set_cons_succ, List.set_cons_zero]) | ((refine rd (by rfl) (ex_lenG 48 55 Tryd.underlying48 rfl rfl) ?_); simp only [Act.put, List.setIfInBounds_toArray, List.set_cons_succ, List.set_cons_zero])))
          go_roundg (l.length - (i + 1))
          case measure => have := unhide HLT; omega
          case rel => exact ⟨i + 1, by go_num, by have := unhide HLT; omega, by omega, HD2, LL⟩
    · obtain rfl : i = l.length := by omega
      have HF := hide (anyS_no (unhide HD))
      clear hlt hil HD
      go_wp2_with (first | go_skip | ((with_reducible show wpList _ _ _ _ _ _); first | ((refine rd (by rfl) (ex_lenG 22 50 Tryd.underlying22 rfl rfl) ?_); simp only [Act.put, List.setIfInBounds_toArray, List.set_cons_succ, List.set_cons_zero])))
      go_ret
      exact ⟨by rw [twV, unhide HF]; rfl, (unhide LL).fr.below⟩
set_option maxHeartbeats 2000000 in
set_option maxRecDepth 100000 in
theorem plain_any (A : Option Addr) (cap : Nat) (l : List SH) (w : World) (hR : ReadsS w A l) (hz : l.length ≤ 100000) (hT : Lib.Utf8Tabs 1 2 w) : Calls Tryd.prog 15 #[.slice A l.length cap] w fun e w' => e = .returned (.bool (plV l)) ∧ Below w.heap.size w w' := by
  have LL := hide (Hq.nil w [])
  have HR := hide hR
  have HZ := hide hz
  have HT := hide hT
  clear hT
  clear hR hz
  go_enter Tryd.func15, Tryd.ntmps15
  go_wp2_with (first | go_skip | ((with_reducible show wpList _ _ _ _ _ _); first | ((refine rd (by rfl) (ex_lenG 22 50 Tryd.underlying22 rfl rfl) ?_); simp only [Act.put, List.setIfInBounds_toArray, List.set_cons_succ, List.set_cons_zero])))
  go_loopg [3] l.length (fun gm s3 wr => ∃ i : Nat, s3 = .int .i64 (i : Nat) ∧ i ≤ l.length ∧ l.length - i ≤ gm ∧ Hid (NoS badD l i) ∧ Hid (Hq w wr [] []))
  case atStart => exact ⟨0, rfl, by omega, by omega, hide (NoS.zero _ _), LL⟩
  case round =>
    clear LL
    obtain ⟨i, rfl, hil, hgm, HD, LL⟩ := hrel
    by_cases hlt : i < l.length
    · have dlt : decide ((i : Int) < (l.length : Int)) = true := decide_eq_true (by omega)
      have hw1 : IntKind.i64.wrap ((i : Int) + 1) = (i : Int) + 1 := by have := unhide HZ; rw [IntKind.wrap_i64]; omega
      obtain ⟨s, hs⟩ : ∃ s, l[i]? = some s := ⟨_, List.getElem?_eq_getElem hlt⟩
      obtain ⟨_, hsl, b, off, SA, sc, hA, hb, hrp, hrg⟩ := (unhide HR) i s hs
      have HA := hide hA
      have H7 : Hid (∀ X, Fr w X [] → X.cell? ⟨b, off + i * 8 + 7, none⟩ = some (.slice SA s.ps.length sc)) := hide (fun X hX => r7 (rangeAt_fr hrg hb hX))
      have HP := hide hrp
      have HSL := hide hsl
      have HS := hide hs
      have HLT := hide hlt
      clear hA hb hrg hrp hsl hs hlt hil
      go_wp2_with (first | go_skip | ((with_reducible show wpList _ _ _ _ _ _); first | ((refine rd (by rfl) (ex_lenG 22 50 Tryd.underlying22 rfl rfl) ?_); simp only [Act.put, List.setIfInBounds_toArray, List.set_cons_succ, List.set_cons_zero]) | ((refine rd (by rfl) (ex_indexA 22 8 i unSs idSs rfl rfl (unhide HA) rfl (unhide HLT)) ?_); simp only [Act.put, List.setIfInBounds_toArray, List.set_cons_succ, List.set_cons_zero]) | ((refine rd (by rfl) (ex_loadC 48 Tryd.isAgg48 rfl rfl (unhide H7 _ (unhide LL).fr)) ?_); simp only [Act.put, List.setIfInBounds_toArray, List.set_cons_succ, List.set_cons_zero]) | ((refine rd (by rfl) (ex_lenG 48 55 Tryd.underlying48 rfl rfl) ?_); simp only [Act.put, List.setIfInBounds_toArray, List.set_cons_succ, List.set_cons_zero])))
      obtain ⟨w2, hw2⟩ : ∃ w2, w2 = wr := ⟨_, rfl⟩
      subst hw2
      try simp only [decide_eq_true (unhide HLT)]
      go_loopg [4] s.ps.length (fun gm s4 wr => ∃ k : Nat, s4 = .int .i64 (k : Nat) ∧ k ≤ s.ps.length ∧ s.ps.length - k ≤ gm ∧ Hid (NoI badD s.ps k) ∧ Hid (Hq w wr [] []))
      case atStart => exact ⟨0, rfl, by omega, by omega, hide (NoI.zero _ _), LL⟩
      case round =>
        clear LL
        obtain ⟨k, rfl, hkl, hgm2, HE, LL⟩ := hrel
        by_cases hkt : k < s.ps.length
        · have dkt : decide ((k : Int) < (s.ps.length : Int)) = true := decide_eq_true (by omega)
          have hwk : IntKind.i64.wrap ((k : Int) + 1) = (k : Int) + 1 := by have := unhide HSL; rw [IntKind.wrap_i64]; omega
          obtain ⟨p, hp⟩ : ∃ p, s.ps[k]? = some p := ⟨_, List.getElem?_eq_getElem hkt⟩
          obtain ⟨hok, b2, off2, hB, hb2, hrg2⟩ := (unhide HP) k p hp
          have HB := hide hB
          have HB2 : Hid (∀ X, Fr w X [] → X.rangeAt b2 (off2 + k * 20 + 2) p.d.cs) := hide (fun X hX => range_right (a := p.k.cs) (c := p.d.cs) (rangeAt_fr hrg2 hb2 hX))
          have HKT := hide hkt
          have HCH := hide (check12 p.d hok.1)
          have HWH := hide (whole_any p.d hok.1)
          simp only [dagg] at HCH HWH
          have hbd : badD s.ps k = !(chkV p.d == 0 && wholeV p.d) := by unfold badD; rw [hp]
          generalize wholeV p.d = wh at *
          clear hkl
          by_cases hch : chkV p.d = 0
          · rw [hch] at hbd HCH
            cases wh
            · have HF := hide (anyS_yes (bp := badD) (unhide HS) hkt (by rw [hbd]; simp))
              clear hbd hch HE HD
              clear hp hok hB hb2 hrg2 hkt
              go_wp2_with (first | go_skip | ((with_reducible show wpList _ _ _ _ _ _); first | ((refine rd (by rfl) (ex_lenG 22 50 Tryd.underlying22 rfl rfl) ?_); simp only [Act.put, List.setIfInBounds_toArray, List.set_cons_succ, List.set_cons_zero]) | ((refine rd (by rfl) (ex_indexA 22 8 i unSs idSs rfl rfl (unhide HA) rfl (unhide HLT)) ?_); simp only [Act.put, List.setIfInBounds_toArray, List.set_cons_succ, List.set_cons_zero]) | ((refine rd (by rfl) (ex_loadC 48 Tryd.isAgg48 rfl rfl (unhide H7 _ (unhide LL).fr)) ?_); simp only [Act.put, List.setIfInBounds_toArray, List.set_cons_succ, List.set_cons_zero]) | ((refine rd (by rfl) (ex_lenG 48 55 Tryd.underlying48 rfl rfl) ?_); simp only [Act.put, List.setIfInBounds_toArray, List.set_cons_succ, List.set_cons_zero]) | ((refine rd (by rfl) (ex_indexA 48 20 k unPs idPs rfl rfl (unhide HB) rfl (unhide HKT)) ?_); simp only [Act.put, List.setIfInBounds_toArray, List.set_cons_succ, List.set_cons_zero]) | ((refine rd (by rfl) (ex_loadR (vs := p.d.cs) 41 18 rwD szD rfl rfl (unhide HB2 _ (unhide LL).fr) rfl) ?_); simp only [Act.put, List.setIfInBounds_toArray, List.set_cons_succ, List.set_cons_zero])))
              refine (unhide HCH _ (tabs_below (unhide HT) (unhide LL).fr.below)).mono ?_
              rintro _ X6 ⟨rfl, hb6⟩
              replace LL := hide ((unhide LL).on hb6)
              clear hb6
              go_wp2_with (first | go_skip | ((with_reducible show wpList _ _ _ _ _ _); first | ((refine rd (by rfl) (ex_lenG 22 50 Tryd.underlying22 rfl rfl) ?_); simp only [Act.put, List.setIfInBounds_toArray, List.set_cons_succ, List.set_cons_zero]) | ((refine rd (by rfl) (ex_indexA 22 8 i unSs idSs rfl rfl (unhide HA) rfl (unhide HLT)) ?_); simp only [Act.put, List.setIfInBounds_toArray, List.set_cons_succ, List.set_cons_zero]) | ((refine rd (by rfl) (ex_loadC 48 Tryd.isAgg48 rfl rfl (unhide H7 _ (unhide LL).fr)) ?_); simp only [Act.put, List.setIfInBounds_toArray, List.set_cons_succ, List.set_cons_zero]) | ((refine rd (by rfl) (ex_lenG 48 55 Tryd.underlying48 rfl rfl) ?_); simp only [Act.put, List.setIfInBounds_toArray, List.set_cons_succ, List.set_cons_zero]) | ((refine rd (by rfl) (ex_indexA 48 20 k unPs idPs rfl rfl (unhide HB) rfl (unhide HKT)) ?_); simp only [Act.put, List.setIfInBounds_toArray, List.set_cons_succ, List.set_cons_zero]) | ((refine rd (by rfl) (ex_loadR (vs := p.d.cs) 41 18 rwD szD rfl rfl (unhide HB2 _ (unhide LL).fr) rfl) ?_); simp only [Act.put, List.setIfInBounds_toArray, List.set_cons_succ, List.set_cons_zero])))
              refine (num11 _ _).mono ?_
              rintro _ _ ⟨rfl, rfl⟩
              go_wp2_with (first | go_skip | ((with_reducible show wpList _ _ _ _ _ _); first | ((refine rd (by rfl) (ex_lenG 22 50 Tryd.underlying22 rfl rfl) ?_); simp only [Act.put, List.setIfInBounds_toArray, List.set_cons_succ, List.set_cons_zero]) | ((refine rd (by rfl) (ex_indexA 22 8 i unSs idSs rfl rfl (unhide HA) rfl (unhide HLT)) ?_); simp only [Act.put, List.setIfInBounds_toArray, List.set_cons_succ, List.set_cons_zero]) | ((refine rd (by rfl) (ex_loadC 48 Tryd.isAgg48 rfl rfl (unhide H7 _ (unhide LL).fr)) ?_); simp only [Act.put, List.setIfInBounds_toArray, List.set_cons_succ, List.set_cons_zero]) | ((refine rd (by rfl) (ex_lenG 48 55 Tryd.underlying48 rfl rfl) ?_); simp only [Act.put, List.setIfInBounds_toArray, List.set_cons_succ, List.set_cons_zero]) | ((refine rd (by rfl) (ex_indexA 48 20 k unPs idPs rfl rfl (unhide HB) rfl (unhide HKT)) ?_); simp only [Act.put, List.setIfInBounds_toArray, List.set_cons_succ, List.set_cons_zero]) | ((refine rd (by rfl) (ex_loadR (vs := p.d.cs) 41 18 rwD szD rfl rfl (unhide HB2 _ (unhide LL).fr) rfl) ?_); simp only [Act.put, List.setIfInBounds_toArray, List.set_cons_succ, List.set_cons_zero])))
              refine (unhide HWH _ (tabs_below (unhide HT) (unhide LL).fr.below)).mono ?_
              rintro _ X8 ⟨rfl, hb8⟩
              replace LL := hide ((unhide LL).on hb8)
              clear hb8
              go_wp2_with (first | go_skip | ((with_reducible show wpList _ _ _ _ _ _); first | ((refine rd (by rfl) (ex_lenG 22 50 Tryd.underlying22 rfl rfl) ?_); simp only [Act.put, List.setIfInBounds_toArray, List.set_cons_succ, List.set_cons_zero]) | ((refine rd (by rfl) (ex_indexA 22 8 i unSs idSs rfl rfl (unhide HA) rfl (unhide HLT)) ?_); simp only [Act.put, List.setIfInBounds_toArray, List.set_cons_succ, List.set_cons_zero]) | ((refine rd (by rfl) (ex_loadC 48 Tryd.isAgg48 rfl rfl (unhide H7 _ (unhide LL).fr)) ?_); simp only [Act.put, List.setIfInBounds_toArray, List.set_cons_succ, List.set_cons_zero]) | ((refine rd (by rfl) (ex_lenG 48 55 Tryd.underlying48 rfl rfl) ?_); simp only [Act.put, List.setIfInBounds_toArray, List.set_cons_succ, List.set_cons_zero]) | ((refine rd (by rfl) (ex_indexA 48 20 k unPs idPs rfl rfl (unhide HB) rfl (unhide HKT)) ?_); simp only [Act.put, List.setIfInBounds_toArray, List.set_cons_succ, List.set_cons_zero]) | ((refine rd (by rfl) (ex_loadR (vs := p.d.cs) 41 18 rwD szD rfl rfl (unhide HB2 _ (unhide LL).fr) rfl) ?_); simp only [Act.put, List.setIfInBounds_toArray, List.set_cons_succ, List.set_cons_zero])))
              go_ret
              exact ⟨by rw [plV, unhide HF]; rfl, (unhide LL).fr.below⟩
            · have HE2 := hide ((unhide HE).step (by rw [hbd]; simp))
              clear hbd hch HE
              clear hp hok hB hb2 hrg2 hkt
              go_wp2_with (first | go_skip | ((with_reducible show wpList _ _ _ _ _ _); first | ((refine rd (by rfl) (ex_lenG 22 50 Tryd.underlying22 rfl rfl) ?_); simp only [Act.put, List.setIfInBounds_toArray, List.set_cons_succ, List.set_cons_zero]) | ((refine rd (by rfl) (ex_indexA 22 8 i unSs idSs rfl rfl (unhide HA) rfl (unhide HLT)) ?_); simp only [Act.put, List.setIfInBounds_toArray, List.set_cons_succ, List.set_cons_zero]) | ((refine rd (by rfl) (ex_loadC 48 Tryd.isAgg48 rfl rfl (unhide H7 _ (unhide LL).fr)) ?_); simp only [Act.put, List.setIfInBounds_toArray, List.set_cons_succ, List.set_cons_zero]) | ((refine rd (by rfl) (ex_lenG 48 55 Tryd.underlying48 rfl rfl) ?_); simp only [Act.put, List.setIfInBounds_toArray, List.set_cons_succ, List.set_cons_zero]) | ((refine rd (by rfl) (ex_indexA 48 20 k unPs idPs rfl rfl (unhide HB) rfl (unhide HKT)) ?_); simp only [Act.put, List.setIfInBounds_toArray, List.set_cons_succ, List.set_cons_zero]) | ((refine rd (by rfl) (ex_loadR (vs := p.d.cs) 41 18 rwD szD rfl rfl (unhide HB2 _ (unhide LL).fr) rfl) ?_); simp only [Act.put, List.setIfInBounds_toArray, List.set_cons_succ, List.set_cons_zero])))
              refine (unhide HCH _ (tabs_below (unhide HT) (unhide LL).fr.below)).mono ?_
              rintro _ X6 ⟨rfl, hb6⟩
              replace LL := hide ((unhide LL).on hb6)
              clear hb6
              go_wp2_with (first | go_skip | ((with_reducible show wpList _ _ _ _ _ _); first | ((refine rd (by rfl) (ex_lenG 22 50 Tryd.underlying22 rfl rfl) ?_); simp only [Act.put, List.setIfInBounds_toArray, List.set_cons_succ, List.set_cons_zero]) | ((refine rd (by rfl) (ex_indexA 22 8 i unSs idSs rfl rfl (unhide HA) rfl (unhide HLT)) ?_); simp only [Act.put, List.setIfInBounds_toArray, List.set_cons_succ, List.set_cons_zero]) | ((refine rd (by rfl) (ex_loadC 48 Tryd.isAgg48 rfl rfl (unhide H7 _ (unhide LL).fr)) ?_); simp only [Act.put, List.setIfInBounds_toArray, List.set_cons_succ, List.set_cons_zero]) | ((refine rd (by rfl) (ex_lenG 48 55 Tryd.underlying48 rfl rfl) ?_); simp only [Act.put, List.setIfInBounds_toArray, List.set_cons_succ, List.set_cons_zero]) | ((refine rd (by rfl) (ex_indexA 48 20 k unPs idPs rfl rfl (unhide HB) rfl (unhide HKT)) ?_); simp only [Act.put, List.setIfInBounds_toArray, List.set_cons_succ, List.set_cons_zero]) | ((refine rd (by rfl) (ex_loadR (vs := p.d.cs) 41 18 rwD szD rfl rfl (unhide HB2 _ (unhide LL).fr) rfl) ?_); simp only [Act.put, List.setIfInBounds_toArray, List.set_cons_succ, List.set_cons_zero])))
              refine (num11 _ _).mono ?_
              rintro _ _ ⟨rfl, rfl⟩
              go_wp2_with (first | go_skip | ((with_reducible show wpList _ _ _ _ _ _); first | ((refine rd (by rfl) (ex_lenG 22 50 Tryd.underlying22 rfl rfl) ?_); simp only [Act.put, List.setIfInBounds_toArray, List.set_cons_succ, List.set_cons_zero]) | ((refine rd (by rfl) (ex_indexA 22 8 i unSs idSs rfl rfl (unhide HA) rfl (unhide HLT)) ?_); simp only [Act.put, List.setIfInBounds_toArray, List.set_cons_succ, List.set_cons_zero]) | ((refine rd (by rfl) (ex_loadC 48 Tryd.isAgg48 rfl rfl (unhide H7 _ (unhide LL).fr)) ?_); simp only [Act.put, List.setIfInBounds_toArray, List.set_cons_succ, List.set_cons_zero]) | ((refine rd (by rfl) (ex_lenG 48 55 Tryd.underlying48 rfl rfl) ?_); simp only [Act.put, List.setIfInBounds_toArray, List.set_cons_succ, List.set_cons_zero]) | ((refine rd (by rfl) (ex_indexA 48 20 k unPs idPs rfl rfl (unhide HB) rfl (unhide HKT)) ?_); simp only [Act.put, List.setIfInBounds_toArray, List.set_cons_succ, List.set_cons_zero]) | ((refine rd (by rfl) (ex_loadR (vs := p.d.cs) 41 18 rwD szD rfl rfl (unhide HB2 _ (unhide LL).fr) rfl) ?_); simp only [Act.put, List.setIfInBounds_toArray, List.set_cons_succ, List.set_cons_zero])))
              refine (unhide HWH _ (tabs_below (unhide HT) (unhide LL).fr.below)).mono ?_
              rintro _ X8 ⟨rfl, hb8⟩
              replace LL := hide ((unhide LL).on hb8)
              clear hb8
              go_wp2_with (first | go_skip | ((with_reducible show wpList _ _ _ _ _ _); first | ((refine rd (by rfl) (ex_lenG 22 50 Tryd.underlying22 rfl rfl) ?_); simp only [Act.put, List.setIfInBounds_toArray, List.set_cons_succ, List.set_cons_zero]) | ((refine rd (by rfl) (ex_indexA 22 8 i unSs idSs rfl rfl (unhide HA) rfl (unhide HLT)) ?_); simp only [Act.put, List.setIfInBounds_toArray, List.set_cons_succ, List.set_cons_zero]) | ((refine rd (by rfl) (ex_loadC 48 Tryd.isAgg48 rfl rfl (unhide H7 _ (unhide LL).fr)) ?_); simp only [Act.put, List.setIfInBounds_toArray, List.set_cons_succ, List.set_cons_zero]) | ((refine rd (by rfl) (ex_lenG 48 55 Tryd.underlying48 rfl rfl) ?_); simp only [Act.put, List.setIfInBounds_toArray, List.set_cons_succ, List.set_cons_zero]) | ((refine rd (by rfl) (ex_indexA 48 20 k unPs idPs rfl rfl (unhide HB) rfl (unhide HKT)) ?_); simp only [Act.put, List.setIfInBounds_toArray, List.set_cons_succ, List.set_cons_zero]) | ((refine rd (by rfl) (ex_loadR (vs := p.d.cs) 41 18 rwD szD rfl rfl (unhide HB2 _ (unhide LL).fr) rfl) ?_); simp only [Act.put, List.setIfInBounds_toArray, List.set_cons_succ, List.set_cons_zero])))
              go_roundg (s.ps.length - (k + 1))
              case measure => have := unhide HKT; omega
              case rel => exact ⟨k + 1, by go_num, by have := unhide HKT; omega, by omega, HE2, LL⟩
          · have HF := hide (anyS_yes (bp := badD) (unhide HS) hkt (by rw [hbd]; simp [hch]))
            generalize chkV p.d = ch at *
            have hne : (ch != 0) = true := by simp [hch]
            clear hbd hch HE HD
            clear hp hok hB hb2 hrg2 hkt
            go_wp2_with (first | go_skip | ((with_reducible show wpList _ _ _ _ _ _); first | ((refine rd (by rfl) (ex_lenG 22 50 Tryd.underlying22 rfl rfl) ?_); simp only [Act.put, List.setIfInBounds_toArray, List.set_cons_succ, List.set_cons_zero]) | ((refine rd (by rfl) (ex_indexA 22 8 i unSs idSs rfl rfl (unhide HA) rfl (unhide HLT)) ?_); simp only [Act.put, List.setIfInBounds_toArray, List.set_cons_succ, List.set_cons_zero]) | ((refine rd (by rfl) (ex_loadC 48 Tryd.isAgg48 rfl rfl (unhide H7 _ (unhide LL).fr)) ?_); simp only [Act.put, List.setIfInBounds_toArray, List.set_cons_succ, List.set_cons_zero]) | ((refine rd (by rfl) (ex_lenG 48 55 Tryd.underlying48 rfl rfl) ?_); simp only [Act.put, List.setIfInBounds_toArray, List.set_cons_succ, List.set_cons_zero]) | ((refine rd (by rfl) (ex_indexA 48 20 k unPs idPs rfl rfl (unhide HB) rfl (unhide HKT)) ?_); simp only [Act.put, List.setIfInBounds_toArray, List.set_cons_succ, List.set_cons_zero]) | ((refine rd (by rfl) (ex_loadR (vs := p.d.cs) 41 18 rwD szD rfl rfl (unhide HB2 _ (unhide LL).fr) rfl) ?_); simp only [Act.put, List.setIfInBounds_toArray, List.set_cons_succ, List.set_cons_zero]) | ((refine rd (by rfl) (ex_neI rfl rfl rfl hne) ?_); simp only [Act.put, List.setIfInBounds_toArray, List.set_cons_succ, List.set_cons_zero])))
            refine (unhide HCH _ (tabs_below (unhide HT) (unhide LL).fr.below)).mono ?_
            rintro _ X6 ⟨rfl, hb6⟩
            replace LL := hide ((unhide LL).on hb6)
            clear hb6
            go_wp2_with (first | go_skip | ((with_reducible show wpList _ _ _ _ _ _); first | ((refine rd (by rfl) (ex_lenG 22 50 Tryd.underlying22 rfl rfl) ?_); simp only [Act.put, List.setIfInBounds_toArray, List.set_cons_succ, List.set_cons_zero]) | ((refine rd (by rfl) (ex_indexA 22 8 i unSs idSs rfl rfl (unhide HA) rfl (unhide HLT)) ?_); simp only [Act.put, List.setIfInBounds_toArray, List.set_cons_succ, List.set_cons_zero]) | ((refine rd (by rfl) (ex_loadC 48 Tryd.isAgg48 rfl rfl (unhide H7 _ (unhide LL).fr)) ?_); simp only [Act.put, List.setIfInBounds_toArray, List.set_cons_succ, List.set_cons_zero]) | ((refine rd (by rfl) (ex_lenG 48 55 Tryd.underlying48 rfl rfl) ?_); simp only [Act.put, List.setIfInBounds_toArray, List.set_cons_succ, List.set_cons_zero]) | ((refine rd (by rfl) (ex_indexA 48 20 k unPs idPs rfl rfl (unhide HB) rfl (unhide HKT)) ?_); simp only [Act.put, List.setIfInBounds_toArray, List.set_cons_succ, List.set_cons_zero]) | ((refine rd (by rfl) (ex_loadR (vs := p.d.cs) 41 18 rwD szD rfl rfl (unhide HB2 _ (unhide LL).fr) rfl) ?_); simp only [Act.put, List.setIfInBounds_toArray, List.set_cons_succ, List.set_cons_zero]) | ((refine rd (by rfl) (ex_neI rfl rfl rfl hne) ?_); simp only [Act.put, List.setIfInBounds_toArray, List.set_cons_succ, List.set_cons_zero])))
            refine (num11 _ _).mono ?_
            rintro _ _ ⟨rfl, rfl⟩
            go_wp2_with (first | go_skip | ((with_reducible show wpList _ _ _ _ _ _); first | ((refine rd (by rfl) (ex_lenG 22 50 Tryd.underlying22 rfl rfl) ?_); simp only [Act.put, List.setIfInBounds_toArray, List.set_cons_succ, List.set_cons_zero]) | ((refine rd (by rfl) (ex_indexA 22 8 i unSs idSs rfl rfl (unhide HA) rfl (unhide HLT)) ?_); simp only [Act.put, List.setIfInBounds_toArray, List.set_cons_succ, List.set_cons_zero]) | ((refine rd (by rfl) (ex_loadC 48 Tryd.isAgg48 rfl rfl (unhide H7 _ (unhide LL).fr)) ?_); simp only [Act.put, List.setIfInBounds_toArray, List.set_cons_succ, List.set_cons_zero]) | ((refine rd (by rfl) (ex_lenG 48 55 Tryd.underlying48 rfl rfl) ?_); simp only [Act.put, List.setIfInBounds_toArray, List.set_cons_succ, List.set_cons_zero]) | ((refine rd (by rfl) (ex_indexA 48 20 k unPs idPs rfl rfl (unhide HB) rfl (unhide HKT)) ?_); simp only [Act.put, List.setIfInBounds_toArray, List.set_cons_succ, List.set_cons_zero]) | ((refine rd (by rfl) (ex_loadR (vs := p.d.cs) 41 18 rwD szD rfl rfl (unhide HB2 _ (unhide LL).fr) rfl) ?_); simp only [Act.put, List.setIfInBounds_toArray, List.set_cons_succ, List.set_cons_zero]) | ((refine rd (by rfl) (ex_neI rfl rfl rfl hne) ?_); simp only [Act.put, List.setIfInBounds_toArray, List.set_cons_succ, List.set_cons_zero])))
            go_ret
            exact ⟨by rw [plV, unhide HF]; rfl, (unhide LL).fr.below⟩
        · obtain rfl : k = s.ps.length := by omega
          have HD2 := hide ((unhide HD).step (unhide HS) (anyP_no (unhide HE)))
          clear hkt hkl HD HE
          go_wp2_with (first | go_skip | ((with_reducible show wpList _ _ _ _ _ _); first | ((refine rd (by rfl) (ex_lenG 22 50 Tryd.underlying22 rfl rfl) ?_); simp only [Act.put, List.setIfInBounds_toArray, List.set_cons_succ, List.set_cons_zero]) | ((refine rd (by rfl) (ex_indexA 22 8 i unSs idSs rfl rfl (unhide HA) rfl (unhide HLT)) ?_); simp only [Act.put, List.setIfInBounds_toArray, List.set_cons_succ, List.set_cons_zero]) | ((refine rd (by rfl) (ex_loadC 48 Tryd.isAgg48 rfl rfl (unhide H7 _ (unhide LL).fr)) ?_); simp only [Act.put, List.setIfInBounds_toArray, List.set_cons_succ, List.set_cons_zero]) | ((refine rd (by rfl) (ex_lenG 48 55 Tryd.underlying48 rfl rfl) ?_); simp only [Act.put, List.setIfInBounds_toArray, List.set_cons_succ, List.set_cons_zero])))
          go_roundg (l.length - (i + 1))
          case measure => have := unhide HLT; omega
          case rel => exact ⟨i + 1, by go_num, by have := unhide HLT; omega, by omega, HD2, LL⟩
    · obtain rfl : i = l.length := by omega
      have HF := hide (anyS_no (unhide HD))
      clear hlt hil HD
      go_wp2_with (first | go_skip | ((with_reducible show wpList _ _ _ _ _ _); first | ((refine rd (by rfl) (ex_lenG 22 50 Tryd.underlying22 rfl rfl) ?_); simp only [Act.put, List.setIfInBounds_toArray, List.set_cons_succ, List.set_cons_zero])))
      refine (twice_any A cap l _ ((unhide HR).fr (unhide LL).fr) (unhide HZ)).mono ?_
      rintro _ X9 ⟨rfl, hb9⟩
      replace LL := hide ((unhide LL).on hb9)
      clear hb9
      generalize htw : twV l = tw at *
      go_wp2_with (first | go_skip | ((with_reducible show wpList _ _ _ _ _ _); first | ((refine rd (by rfl) (ex_lenG 22 50 Tryd.underlying22 rfl rfl) ?_); simp only [Act.put, List.setIfInBounds_toArray, List.set_cons_succ, List.set_cons_zero])))
      go_ret
      exact ⟨by rw [plV, unhide HF, htw]; simp, (unhide LL).fr.below⟩
end Go.Proofs.YtcflglloopgieaaDoor
