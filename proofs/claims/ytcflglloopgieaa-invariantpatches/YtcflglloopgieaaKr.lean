import Derived.Test.YtcflglloopgieaaKq
namespace Go.Proofs.Ytcflglloopgieaa
open Go Go.Proofs Go.Maps Go.RowKit FM
set_option linter.unusedSimpArgs false
set_option linter.unusedVariables false
set_option maxHeartbeats 1000000
/-- A slice of members that can be taken. -/
def ReadsL (w : World) (A : Option Addr) (l : List DL) : Prop := ∀ j d, l[j]? = some d → GL d ∧ ∃ b off, A = some ⟨b, off, none⟩ ∧ b < w.heap.size ∧ w.rangeAt b (off + j * 29) d.cs
theorem patch_step {bs m : List SH} {r : List DL} {i : Nat} {d : DL} (hd : r[i]? = some d) (h : patchL bs (r.take i) = some m) : patchL bs (r.take (i + 1)) = takeL m d := by
  obtain ⟨hi, rfl⟩ := List.getElem?_eq_some_iff.1 hd
  rw [List.take_succ_eq_append_getElem hi, patchL_append, h]
  simp only [Option.bind_some, patchL]
  cases takeL m r[i] <;> rfl
theorem patch_fail {bs : List SH} {r : List DL} {i : Nat} (h : patchL bs (r.take i) = none) : patchL bs r = none := by
  rw [← List.take_append_drop i r, patchL_append, h]
  rfl
def PaPost (w : World) (bs : List SH) (r : List DL) (e : Ending) (Y : World) : Prop := ∃ (v : Value) (er : Int), e = .returned (.tuple #[v, .int .i64 er]) ∧ Below w.heap.size w Y ∧ ((patchL bs r = none ∧ er = 7 ∧ v = .slice none 0 0) ∨ ∃ (m : List SH) (A : Option Addr) (c : Nat), patchL bs r = some m ∧ er = 0 ∧ v = .slice A m.length c ∧ ReadsS Y A m)
set_option maxHeartbeats 4000000 in
set_option maxRecDepth 100000 in
theorem patch_any (A D : Option Addr) (cap dc : Nat) (bs : List SH) (r : List DL) (w : World) (hB : ReadsU w A bs) (hR : ReadsL w D r) (hz : bs.length ≤ 60) (hz2 : r.length ≤ 90000) : Calls Try.prog 6 #[.slice A bs.length cap, .slice D r.length dc] w (PaPost w bs r) := by
  have HB := hide hB
  have HR := hide hR
  have HZ := hide hz
  have HZ2 := hide hz2
  clear hB hR hz hz2
  go_enter Try.func6, Try.ntmps6
  go_wp2_with fail
  refine (draftsOf_any A cap bs _ (unhide HB) (by have := unhide HZ; omega)).mono ?_
  rintro e Y1 ⟨v, ds, rfl, hS, hab, hk⟩
  obtain ⟨A1, c1, rfl⟩ := own_form (hS.get 0 rfl)
  have LL := hide hS
  have hdl : ds.length = bs.length := by rw [← hab]; simp [absL]
  have HP : Hid (patchL bs (r.take 0) = some (absL ds) ∧ (∀ p ∈ ds, 400 ≤ p.k ∧ p.k ≤ 400 + 0) ∧ ds.length ≤ bs.length + 0) := hide ⟨by simp [patchL, hab], fun p hp => by rw [hk p hp]; omega, by omega⟩
  clear hS hab hk hdl
  go_wp2_with (first | go_skip | ((with_reducible show wpList _ _ _ _ _ _); first | ((refine alP (v := .slice none 0 0) 50 [.slice none 0 0] (by rfl) rfl (fun w => by kernel_rfl) rfl (Nat.succ_pos _) (unhide LL) ?_); intro X6 B6 hE6 L6 hb6; replace LL := hide L6; clear L6 hb6 hE6; simp only [Act.put, List.setIfInBounds_toArray, List.set_cons_succ, List.set_cons_zero]) | ((refine stS (vs := [.slice A1 ds.length c1]) 0 50 (by rfl) rfl rfl rfl rfl (by simp [Value.oneCell']) szXs (unhide LL) rfl (by simp) ?_); intro X7 L7 hf7 hs7; replace LL := hide L7; clear L7 hf7 hs7; simp only [Act.put, List.setIfInBounds_toArray, List.set_cons_succ, List.set_cons_zero]) | ((refine rd (by rfl) (ex_lenG 23 35 Try.underlying23 rfl rfl) ?_); simp only [Act.put, List.setIfInBounds_toArray, List.set_cons_succ, List.set_cons_zero])))
  go_loopg [13] r.length (fun gm s13 wr => ∃ (i : Nat) (v : Value) (ds : List DB), s13 = .int .i64 (i : Nat) ∧ i ≤ r.length ∧ r.length - i ≤ gm ∧ Hid (Sy w wr [] (boxO B6 [v] :: core w v ds)) ∧ Hid (patchL bs (r.take i) = some (absL ds) ∧ (∀ p ∈ ds, 400 ≤ p.k ∧ p.k ≤ 400 + i) ∧ ds.length ≤ bs.length + i))
  case atStart => exact ⟨0, _, ds, rfl, by omega, by omega, LL, HP⟩
  case round =>
    clear LL HP
    obtain ⟨i, v, ds, rfl, hil, hgm, LL, HP⟩ := hrel
    by_cases hlt : i < r.length
    · have dlt : decide ((i : Int) < (r.length : Int)) = true := decide_eq_true (by omega)
      have hw1 : IntKind.i64.wrap ((i : Int) + 1) = (i : Int) + 1 := by have := unhide HZ2; rw [IntKind.wrap_i64]; omega
      obtain ⟨d, hd⟩ : ∃ d, r[i]? = some d := ⟨_, List.getElem?_eq_getElem hlt⟩
      obtain ⟨hgl, b, off, hA, hb, hrg⟩ := (unhide HR) i d hd
      have HA := hide hA
      have HA2 : Hid (∀ Z, Fr w Z [] → Z.rangeAt b (off + i * 29) d.cs) := hide (fun Z hZ => rangeAt_fr hrg hb hZ)
      have HLT := hide hlt
      have HST := hide (patch_step hd (unhide HP).1)
      have HGL := hide hgl
      clear hA hb hrg hd hil hlt hgl
      go_wp2_with (first | go_skip | ((with_reducible show wpList _ _ _ _ _ _); first | ((refine rd (by rfl) (ex_lenG 23 35 Try.underlying23 rfl rfl) ?_); simp only [Act.put, List.setIfInBounds_toArray, List.set_cons_succ, List.set_cons_zero]) | ((refine rd (by rfl) (ex_indexA 23 29 i unLs idLs rfl rfl (unhide HA) rfl (unhide HLT)) ?_); simp only [Act.put, List.setIfInBounds_toArray, List.set_cons_succ, List.set_cons_zero]) | ((refine rd (by rfl) (ex_loadR (vs := d.cs) 35 29 rwL szL rfl rfl (unhide HA2 _ (unhide LL).fr) rfl) ?_); simp only [Act.put, List.setIfInBounds_toArray, List.set_cons_succ, List.set_cons_zero]) | ((refine alP (v := .agg (zeroL.cs).toArray) 35 (zeroL.cs) (by rfl) rfl (fun w => by kernel_rfl) rfl (Nat.succ_pos _) (unhide LL) ?_); intro X8 B8 hE8 L8 hb8; replace LL := hide L8; clear L8 hb8 hE8; simp only [Act.put, List.setIfInBounds_toArray, List.set_cons_succ, List.set_cons_zero]) | ((refine stS (vs := d.cs) 0 35 (by rfl) rfl rfl rfl rfl (dlcs_one d) szL (unhide LL) rfl (by simp [cput, DL.cs, VV.cs, KK.cs, DD.cs, zeroL, zeroV, zeroD]) ?_); intro X9 L9 hf9 hs9; replace LL := hide L9; clear L9 hf9 hs9; simp only [Act.put, List.setIfInBounds_toArray, List.set_cons_succ, List.set_cons_zero]) | ((refine rd (by rfl) (ex_loadN (vs := d.cs) 35 29 rwL szL rfl rfl ((unhide LL).hold 0 rfl) rfl rfl) ?_); simp only [Act.put, List.setIfInBounds_toArray, List.set_cons_succ, List.set_cons_zero])))
      have h34 := take34_any d w _ B6 (400 + i) v ds (unhide LL).tail (by have := (unhide HP).2.2; have := unhide HZ; have := unhide HZ2; have := unhide HLT; omega) (unhide HP).2.1 ⟨by omega, by have := unhide HZ2; have := unhide HLT; omega⟩ (unhide HGL)
      unfold DL.agg at h34
      refine h34.mono ?_
      clear h34
      rintro e Y2 ⟨b2, v2, ds2, rfl, hS, hk, hn, hT, hFa⟩
      have hnn := (unhide HP).2.2
      replace LL := hide hS
      clear hS
      cases b2
      · have HE : Hid (patchL bs r = none) := hide (patch_fail (i := i + 1) (by rw [unhide HST]; exact hFa rfl))
        clear hT hFa hk hn
        go_wp2_with fail
        go_ret2
        exact ⟨_, 7, rfl, (unhide LL).fr.below, .inl ⟨unhide HE, rfl, rfl⟩⟩
      · have HPN : Hid (patchL bs (r.take (i + 1)) = some (absL ds2) ∧ (∀ p ∈ ds2, 400 ≤ p.k ∧ p.k ≤ 400 + (i + 1)) ∧ ds2.length ≤ bs.length + (i + 1)) := hide ⟨by rw [unhide HST]; exact hT rfl, hk, by omega⟩
        clear hT hFa hk hn hnn HP
        go_wp2_with fail
        go_roundg (r.length - (i + 1))
        case measure => have := unhide HLT; omega
        case rel => exact ⟨i + 1, v2, ds2, by go_num, by have := unhide HLT; omega, by omega, LL, HPN⟩
    · obtain rfl : i = r.length := by omega
      have hP := unhide HP
      rw [List.take_length] at hP
      replace HP := hide hP
      clear hlt hil hP
      obtain ⟨A2, c2, rfl⟩ := own_form ((unhide LL).get 1 rfl)
      go_wp2_with (first | go_skip | ((with_reducible show wpList _ _ _ _ _ _); first | ((refine rd (by rfl) (ex_lenG 23 35 Try.underlying23 rfl rfl) ?_); simp only [Act.put, List.setIfInBounds_toArray, List.set_cons_succ, List.set_cons_zero]) | ((refine rd (by rfl) (ex_load1 50 Try.isAgg50 rfl rfl ((unhide LL).hold 0 rfl) rfl) ?_); simp only [Act.put, List.setIfInBounds_toArray, List.set_cons_succ, List.set_cons_zero])))
      have h35 := shapes_any w _ _ ds (unhide LL).tail (by have := (unhide HP).2.2; have := unhide HZ; have := unhide HZ2; omega) (fun p hp => by have := ((unhide HP).2.1 p hp).2; have := unhide HZ2; omega)
      refine h35.mono ?_
      clear h35
      rintro e Y3 ⟨A3, c3, rfl, hRS, hb⟩
      have HRS := hide (And.intro hRS ((unhide LL).fr.on hb).below)
      clear hRS hb LL
      go_wp2_with fail
      go_ret2
      exact ⟨_, 0, rfl, (unhide HRS).2, .inr ⟨_, A3, c3, (unhide HP).1, rfl, rfl, (unhide HRS).1⟩⟩
end Go.Proofs.Ytcflglloopgieaa
