import Derived.Test.YtcflglloopgieaaLh
namespace Go.Proofs.Ytcflglloopgieaa
open Go Go.Proofs Go.Maps Go.RowKit FM
set_option linter.unusedSimpArgs false
set_option linter.unusedVariables false
set_option maxHeartbeats 1000000
theorem ReadsU.fr {w X : World} {A : Option Addr} {l : List SH} (h : ReadsU w A l) (hf : Fr w X []) : ReadsU X A l := fun j s hs => by
  obtain ⟨h0, h1, h2, b, off, SA, cap, h3, h4, h5, h6, h7⟩ := h j s hs
  exact ⟨h0, h1, h2, b, off, SA, cap, h3, Nat.lt_of_lt_of_le h4 hf.size, h5.fr hf, rangeAt_fr h6 h4 hf, h7⟩
theorem patchM (A D : Option Addr) (cap dc : Nat) (bs : List SH) (r : List DL) (w : World) (mm : Option (List SH)) (hm : mm = patchL bs r) (hB : ReadsU w A bs) (hR : ReadsL w D r) (hz : bs.length ≤ 60) (hz2 : r.length ≤ 90000) : Calls Try.prog 6 #[.slice A bs.length cap, .slice D r.length dc] w (PPost w mm) := by
  subst hm
  exact patchS_any A D cap dc bs r w hB hR hz hz2
theorem refPatchM (A D : Option Addr) (cap dc : Nat) (bs : List SH) (r : List DL) (w : World) (mm : Option (List SH)) (hm : mm = patchL bs r) (hB : ReadsC w A bs) (hR : ReadsL w D r) (hz : bs.length ≤ 60) (hz3 : ∀ s ∈ bs, s.ps.length ≤ 400) (hz2 : r.length ≤ 400) : Calls Try.prog 7 #[.slice A bs.length cap, .slice D r.length dc] w (PPost w mm) := by
  subst hm
  exact refPatch_any A D cap dc bs r w hB hR hz hz3 hz2
theorem takeL_len {m m' : List SH} {d : DL} (h : takeL m d = some m') : m'.length ≤ m.length + 1 := by
  unfold takeL at h
  split at h
  · cases h
    simp
  · split at h
    · cases he : m[d.o.toNat - 1]? with
      | none => rw [he] at h; cases h
      | some s =>
        rw [he] at h
        simp only [Option.bind_some] at h
        obtain ⟨t, _, rfl⟩ := Option.map_eq_some_iff.1 h
        simp
    · cases h
theorem patchL_len : ∀ (r : List DL) (m m' : List SH), patchL m r = some m' → m'.length ≤ m.length + r.length
  | [], m, m', h => by cases h; simp
  | d :: r, m, m', h => by
    simp only [patchL] at h
    cases ht : takeL m d with
    | none => rw [ht] at h; cases h
    | some m1 =>
      rw [ht] at h
      have h1 := takeL_len ht
      have h2 := patchL_len r m1 m' h
      simp only [List.length_cons]
      omega
theorem patch_len {m : List SH} {r : List DL} (h1 : m.length ≤ 60) (h2 : r.length ≤ 400) : ((patchL m r).getD []).length ≤ 460 := by
  cases h : patchL m r with
  | none => simp
  | some m' =>
    have := patchL_len r m m' h
    simp only [Option.getD_some]
    omega
theorem bs_same (base base' : Nat) (v : Value) (cl : List CE) : (shO base v cl).map Ob.bs = (shO base' v cl).map Ob.bs := by
  simp [shO, rowS, rowO, rowP]
theorem bsAll_same (base base' : Nat) (v : Value) (cl : List CE) : bsAll (shO base v cl) = bsAll (shO base' v cl) := by
  unfold bsAll
  rw [List.flatMap_def, List.flatMap_def, bs_same base base']
theorem shO_zero {w X : World} {E : List Nat} {base : Nat} {v : Value} {cl : List CE} (h : Sy w X E (shO base v cl)) : Sy w X E (shO 0 v cl) := by
  have hmem : ∀ o ∈ shO 0 v cl, ∃ o' ∈ shO base v cl, o'.bs = o.bs ∧ (o'.P X → o.P X) ∧ o.Ok := fun o ho => by
    rcases List.mem_cons.1 ho with rfl | ho
    · exact ⟨_, List.mem_cons_self .., rfl, fun h => own_mono h (Nat.zero_le _), rowO_ok _ _ _ _ _ _⟩
    · obtain ⟨e, he, rfl⟩ := List.mem_map.1 ho
      exact ⟨rowP base e, List.mem_cons_of_mem _ (List.mem_map.2 ⟨e, he, rfl⟩), rfl, fun h => own_mono h (Nat.zero_le _), rowO_ok _ _ _ _ _ _⟩
  refine ⟨h.fr, fun o ho => ?_, fun o ho => ?_, fun o ho b hb => ?_, ?_⟩
  · obtain ⟨_, _, _, _, h4⟩ := hmem o ho
    exact h4
  · obtain ⟨o', h1, _, h3, _⟩ := hmem o ho
    exact h3 (h.ho o' h1)
  · obtain ⟨o', h1, h2, _, _⟩ := hmem o ho
    exact h.lo o' h1 b (h2 ▸ hb)
  · have h1 := (List.pairwise_map (f := Ob.bs) (R := fun (a b : List Nat) => ∀ x ∈ a, x ∉ b)).2 h.dis
    rw [bs_same base 0] at h1
    exact List.pairwise_map.1 h1
theorem spoilM {w X : World} {base : Nat} {v : Value} {cl : List CE} {m : List SH} (h : Sy w X [] (shO base v cl)) (hm : cl.map CE.s = m) (hg : ∀ e ∈ cl, GC e) (hl : m.length ≤ 460) : Calls Try.prog 11 #[v] X fun e Y => e = .returned (.tuple #[]) ∧ Fr X Y (bsAll (shO base v cl)) := by
  have hlen : cl.length = m.length := by rw [← hm, List.length_map]
  rw [bsAll_same base 0]
  exact spoil_any w X 0 v cl (shO_zero h) (Nat.zero_le _) (by omega) (fun e he => (hg e he).2.1)
theorem sliceO {X : World} {base n c k : Nat} {A : Option Addr} {xs : List Value} (h : X.ownsRow base 35 29 (.slice A n c) n xs) (hk : k ≤ n) (Z : World) : (Instr.sliceAt 23 (.slice A n c) none (some (.int .i64 (k : Nat))) none).run Try.prog Z = .ok (.slice A k c) Z :=
  sliceL A n c k hk (own_cap h) (fun hA => by
    rcases h.2 with ⟨_, h0⟩ | ⟨g, c', cur, h1, _⟩
    · exact h0
    · rw [hA] at h1
      simp at h1) Z
set_option maxHeartbeats 4000000 in
set_option maxRecDepth 100000 in
theorem law_patches (A D : Option Addr) (ca dc : Nat) (la : List SH) (l : List DL) (w : World) (hX : ReadsX w A la) (hL : ReadsL w D l) (hc : D = none → dc = 0) : Calls Try.prog 3 #[.slice A la.length ca, .slice D l.length dc] w fun e w' => e = .returned (.bool true) ∧ Below w.heap.size w w' := by
  have HX := hide hX
  have HL := hide hL
  have HC := hide hc
  clear hX hL hc
  go_enter Try.func3, Try.ntmps3
  go_wp2_with (first | go_skip | ((with_reducible show wpList _ _ _ _ _ _); first | ((with_reducible show wpList _ _ _ (Oper.mk _ (Op.call _) _ _ _ _ :: _) _ _); ((refine rd (by rfl) (ex_lenG 23 35 Try.underlying23 rfl rfl) ?_); simp only [Act.put, List.setIfInBounds_toArray, List.set_cons_succ, List.set_cons_zero]))))
  refine (few_any A ca la _ (unhide HX).s).mono ?_
  rintro e Z0 ⟨r, rfl, hr, hb0⟩
  have HF0 := hide (Fr.of_below hb0 [])
  clear hb0
  cases r
  · clear hr
    go_wp2_with (first | go_skip | ((with_reducible show wpList _ _ _ _ _ _); first | ((with_reducible show wpList _ _ _ (Oper.mk _ (Op.call _) _ _ _ _ :: _) _ _); ((refine rd (by rfl) (ex_lenG 23 35 Try.underlying23 rfl rfl) ?_); simp only [Act.put, List.setIfInBounds_toArray, List.set_cons_succ, List.set_cons_zero]))))
    go_ret
    exact ⟨rfl, (unhide HF0).below⟩
  · have HQ := hide (hr rfl)
    clear hr
    by_cases h4 : l.length ≤ 400
    · have d4 : decide ((400 : Int) < (l.length : Int)) = false := decide_eq_false (by omega)
      have H4 := hide h4
      clear h4
      go_wp2_with (first | go_skip | ((with_reducible show wpList _ _ _ _ _ _); first | ((with_reducible show wpList _ _ _ (Oper.mk _ (Op.call _) _ _ _ _ :: _) _ _); ((refine rd (by rfl) (ex_lenG 23 35 Try.underlying23 rfl rfl) ?_); simp only [Act.put, List.setIfInBounds_toArray, List.set_cons_succ, List.set_cons_zero])) | ((with_reducible show wpList _ _ _ (Oper.mk _ (Op.binOp _ _ _ _ _) _ _ _ _ :: _) _ _); ((refine rd (by rfl) (ex_gtI rfl rfl rfl d4) ?_); simp only [Act.put, List.setIfInBounds_toArray, List.set_cons_succ, List.set_cons_zero]))))
      refine (copyL_any A ca la _ (((unhide HX).fr (unhide HF0)).c (unhide HQ).2) (by have := (unhide HQ).1; omega)).mono ?_
      rintro e X1 ⟨A5, c5, cb, rfl, hS, hm, hg⟩
      have LL := hide (hS.from (unhide HF0))
      generalize Z0.heap.size = b5 at hS LL
      have HM5 := hide hm
      have HG5 := hide hg
      clear hS hm hg
      go_wp2_with (first | go_skip | ((with_reducible show wpList _ _ _ _ _ _); first | ((with_reducible show wpList _ _ _ (Oper.mk _ (Op.call _) _ _ _ _ :: _) _ _); ((refine rd (by rfl) (ex_lenG 23 35 Try.underlying23 rfl rfl) ?_); simp only [Act.put, List.setIfInBounds_toArray, List.set_cons_succ, List.set_cons_zero])) | ((with_reducible show wpList _ _ _ (Oper.mk _ (Op.buildSlice _ _ _) _ _ _ _ :: _) _ _); ((refine noL w.heap.size (unhide LL).fr.size (by rfl) rfl (unhide LL) ?_); intro X2 B2 hE2 L2 hb2; replace LL := hide L2; clear L2 hb2 hE2; simp only [Act.put, List.setIfInBounds_toArray, List.set_cons_succ, List.set_cons_zero])) | ((with_reducible show wpList _ _ _ (Oper.mk _ (Op.call _) _ _ _ _ :: _) _ _); ((refine apL (base := w.heap.size) (k := 0) (xs := []) 0 (by rfl) rfl rfl rfl (unhide LL) rfl ((unhide HL).fr (unhide LL).fr) (unhide HC) (by have := unhide H4; omega) (unhide LL).fr.size ?_); intro A3 c3 X3 L3; replace LL := hide L3; clear L3; simp only [Act.put, List.setIfInBounds_toArray, List.set_cons_succ, List.set_cons_zero])) | ((with_reducible show wpList _ _ _ (Oper.mk _ (Op.build _ _) _ _ _ _ :: _) _ _); ((refine rd (by rfl) (ex_bM rfl rfl) ?_); simp only [Act.put, List.setIfInBounds_toArray, List.set_cons_succ, List.set_cons_zero])) | ((with_reducible show wpList _ _ _ (Oper.mk _ (Op.buildSlice _ _ _) _ _ _ _ :: _) _ _); ((refine bsP (cs := minusL.cs) (by rfl) rfl rfl Try.underlying23 infL (by decide) rfl rfl (by decide) (unhide LL) ?_); intro X4 B4 hE4 L4 hb4; replace LL := hide L4; clear L4 hb4 hE4; simp only [Act.put, List.setIfInBounds_toArray, List.set_cons_succ, List.set_cons_zero])) | ((with_reducible show wpList _ _ _ (Oper.mk _ (Op.call _) _ _ _ _ :: _) _ _); ((refine apS (size := 29) (bytes := 272) (base := w.heap.size) (k := 0 + l.length) (xs := [] ++ flatL l) (news := minusL.cs) (v := .slice A3 (0 + l.length) c3) 1 0 rfl rfl rfl rfl Try.underlying23 infL rfl (by decide) (unhide LL) rfl rfl rfl (dlcs_one _) (by have := unhide H4; omega) (by decide) (unhide LL).fr.size ?_); intro A6 c6 X6 L6; replace LL := hide L6; clear L6; simp only [Act.put, List.setIfInBounds_toArray, List.set_cons_succ, List.set_cons_zero])) | ((with_reducible show wpList _ _ _ (Oper.mk _ (Op.slice _ _ _ _ _) _ _ _ _ :: _) _ _); ((refine rd (by rfl) (ex_sliceL (u := .slice A6 l.length c6) rfl rfl rfl (by have h := (unhide LL).get 1 rfl; simp only [rowO, Nat.zero_add] at h; exact sliceO h (Nat.le_succ _) _)) ?_); simp only [Act.put, List.setIfInBounds_toArray, List.set_cons_succ, List.set_cons_zero]))))
      have hS := (unhide LL).tail
      have hO : X6.ownsRow w.heap.size 35 29 (.slice A6 (l.length + 1) c6) (l.length + 1) (flatL (l ++ [minusL])) := by
        have h := hS.get 0 rfl
        simp only [rowO, Nat.zero_add] at h
        have e : flatL (l ++ [minusL]) = [] ++ flatL l ++ minusL.cs := by simp [flatL]
        rw [e]
        exact h
      have hSb := hS.tail
      have HF2 := hide hS.fr
      have HRU := hide (shO_readsU hSb (unhide HM5) (unhide HG5) (fun s hs => by
        obtain ⟨j, hj⟩ := List.getElem?_of_mem hs
        exact ⟨((unhide HX) j s hj).1, (unhide HQ).2 s hs⟩))
      have HRS := hide (shO_reads hSb (unhide HM5) (unhide HG5))
      have HRD := hide (own_readsL (m := [minusL]) (unhide HL).gl hO (by simp))
      obtain ⟨g6, c6b, hv6, -, h36, h46⟩ := own_row dlcs_length hO (by simp) l.length (by simp)
      obtain ⟨hA6, -⟩ : A6 = some ⟨g6, 0, none⟩ ∧ c6 = c6b := by simpa using hv6
      have HA6 := hide hA6
      obtain ⟨q6, hq6⟩ : ∃ q6, q6 = 0 + l.length * 29 := ⟨_, rfl⟩
      have HQ6 := hide hq6
      have HC6 : Hid (∀ Z, Fr X6 Z [] → Z.cell? ⟨g6, q6, none⟩ = some (.int .i64 (-7))) := hide (fun Z hZ => by
        have h := rangeAt_fr h46 h36 hZ
        simp only [List.getElem_append_right (Nat.le_refl _), Nat.sub_self, List.getElem_cons_zero] at h
        rw [← hq6] at h
        exact h 0 _ rfl)
      have HSL : Hid (∀ Z : World, (Instr.sliceAt 23 (.slice A6 (l.length + 1) c6) none (some (.int .i64 (l.length : Nat))) none).run Try.prog Z = .ok (.slice A6 l.length c6) Z) := hide (fun Z => sliceL A6 (l.length + 1) c6 l.length (by omega) (own_cap hO) (fun h => by rw [hA6] at h; cases h) Z)
      have FF := hide (Fr.refl X6 [])
      have HN6 : Hid (l.length < l.length + 1) := hide (by omega)
      clear hS hO hSb hv6 h36 h46 hA6 LL hq6
      have HMM : ∃ mm, mm = patchL la l := ⟨_, rfl⟩
      obtain ⟨mm, hmm⟩ := HMM
      have HMM := hide hmm
      clear hmm
      refine (patchM A5 A6 c5 c6 la l _ mm (unhide HMM) ((unhide HRU).fr (unhide FF)) ((unhide HRD).fr (unhide FF)) (by have := (unhide HQ).1; omega) (by have := unhide H4; omega)).mono ?_
      rintro e Yx hx
      obtain ⟨Px, px, qx, clx, rfl, hS, hm, hg⟩ := PQ.of hx
      clear hx
      have HEX := hide (bs_range hS)
      replace FF := hide ((unhide FF).trans hS.fr (by simp))
      have SSx := hide hS
      have HMx := hide hm
      have HGx := hide hg
      clear hS hm hg
      go_wp2_with (first | go_skip | ((with_reducible show wpList _ _ _ _ _ _); first | ((with_reducible show wpList _ _ _ (Oper.mk _ (Op.call _) _ _ _ _ :: _) _ _); ((refine rd (by rfl) (ex_lenG 23 35 Try.underlying23 rfl rfl) ?_); simp only [Act.put, List.setIfInBounds_toArray, List.set_cons_succ, List.set_cons_zero])) | ((with_reducible show wpList _ _ _ (Oper.mk _ (Op.slice _ _ _ _ _) _ _ _ _ :: _) _ _); ((refine rd (by rfl) (ex_sliceL rfl rfl rfl (unhide HSL _)) ?_); simp only [Act.put, List.setIfInBounds_toArray, List.set_cons_succ, List.set_cons_zero]))))
      refine (patchM A5 A6 c5 c6 la l _ mm (unhide HMM) ((unhide HRU).fr (unhide FF)) ((unhide HRD).fr (unhide FF)) (by have := (unhide HQ).1; omega) (by have := unhide H4; omega)).mono ?_
      rintro e Yy hy
      obtain ⟨Py, py, qy, cly, rfl, hS, hm, hg⟩ := PQ.of hy
      clear hy
      have HYY := hide hS.fr.size
      replace SSx := hide ((unhide SSx).on hS.fr.below)
      replace FF := hide ((unhide FF).trans hS.fr (by simp))
      have SSy := hide hS
      have HMy := hide hm
      have HGy := hide hg
      clear hS hm hg
      go_wp2_with (first | go_skip | ((with_reducible show wpList _ _ _ _ _ _); first | ((with_reducible show wpList _ _ _ (Oper.mk _ (Op.call _) _ _ _ _ :: _) _ _); ((refine rd (by rfl) (ex_lenG 23 35 Try.underlying23 rfl rfl) ?_); simp only [Act.put, List.setIfInBounds_toArray, List.set_cons_succ, List.set_cons_zero])) | ((with_reducible show wpList _ _ _ (Oper.mk _ (Op.slice _ _ _ _ _) _ _ _ _ :: _) _ _); ((refine rd (by rfl) (ex_sliceL rfl rfl rfl (unhide HSL _)) ?_); simp only [Act.put, List.setIfInBounds_toArray, List.set_cons_succ, List.set_cons_zero]))))
      refine (refPatchM A D ca dc la l _ mm (unhide HMM) (((unhide HX).fr ((unhide HF2).trans (unhide FF) (by simp))).c (unhide HQ).2) ((unhide HL).fr ((unhide HF2).trans (unhide FF) (by simp))) (by have := (unhide HQ).1; omega) (unhide HQ).2 (unhide H4)).mono ?_
      rintro e Yz hz
      obtain ⟨Pz, pz, qz, clz, rfl, hS, hm, hg⟩ := PQ.of hz
      clear hz
      replace SSx := hide ((unhide SSx).on hS.fr.below)
      replace SSy := hide ((unhide SSy).on hS.fr.below)
      replace FF := hide ((unhide FF).trans hS.fr (by simp))
      have SSz := hide hS
      have HMz := hide hm
      have HGz := hide hg
      clear hS hm hg
      have HML2 : Hid ((mm.getD []).length ≤ 460) := hide (by rw [unhide HMM]; exact patch_len (unhide HQ).1 (unhide H4))
      have HML : Hid ((mm.getD []).length ≤ 100000) := hide (by have := unhide HML2; omega)
      go_wp2_with (first | go_skip | ((with_reducible show wpList _ _ _ _ _ _); first | ((with_reducible show wpList _ _ _ (Oper.mk _ (Op.call _) _ _ _ _ :: _) _ _); ((refine rd (by rfl) (ex_lenG 23 35 Try.underlying23 rfl rfl) ?_); simp only [Act.put, List.setIfInBounds_toArray, List.set_cons_succ, List.set_cons_zero])) | ((with_reducible show wpList _ _ _ (Oper.mk _ (Op.slice _ _ _ _ _) _ _ _ _ :: _) _ _); ((refine rd (by rfl) (ex_sliceL rfl rfl rfl (unhide HSL _)) ?_); simp only [Act.put, List.setIfInBounds_toArray, List.set_cons_succ, List.set_cons_zero]))))
      refine (same_self (mm.getD []) Px Pz px pz _ (shO_reads (unhide SSx) (unhide HMx) (unhide HGx)) (shO_reads (unhide SSz) (unhide HMz) (unhide HGz)) (unhide HML)).mono ?_
      rintro e S1 ⟨rfl, hb⟩
      replace SSx := hide ((unhide SSx).on hb)
      replace SSy := hide ((unhide SSy).on hb)
      replace SSz := hide ((unhide SSz).on hb)
      replace FF := hide ((unhide FF).on hb)
      clear hb
      go_wp2_with (first | go_skip | ((with_reducible show wpList _ _ _ _ _ _); first | ((with_reducible show wpList _ _ _ (Oper.mk _ (Op.call _) _ _ _ _ :: _) _ _); ((refine rd (by rfl) (ex_lenG 23 35 Try.underlying23 rfl rfl) ?_); simp only [Act.put, List.setIfInBounds_toArray, List.set_cons_succ, List.set_cons_zero])) | ((with_reducible show wpList _ _ _ (Oper.mk _ (Op.slice _ _ _ _ _) _ _ _ _ :: _) _ _); ((refine rd (by rfl) (ex_sliceL rfl rfl rfl (unhide HSL _)) ?_); simp only [Act.put, List.setIfInBounds_toArray, List.set_cons_succ, List.set_cons_zero]))))
      refine (same_self (mm.getD []) Py Pz py pz _ (shO_reads (unhide SSy) (unhide HMy) (unhide HGy)) (shO_reads (unhide SSz) (unhide HMz) (unhide HGz)) (unhide HML)).mono ?_
      rintro e S2 ⟨rfl, hb⟩
      replace SSx := hide ((unhide SSx).on hb)
      replace SSy := hide ((unhide SSy).on hb)
      replace SSz := hide ((unhide SSz).on hb)
      replace FF := hide ((unhide FF).on hb)
      clear hb
      go_wp2_with (first | go_skip | ((with_reducible show wpList _ _ _ _ _ _); first | ((with_reducible show wpList _ _ _ (Oper.mk _ (Op.call _) _ _ _ _ :: _) _ _); ((refine rd (by rfl) (ex_lenG 23 35 Try.underlying23 rfl rfl) ?_); simp only [Act.put, List.setIfInBounds_toArray, List.set_cons_succ, List.set_cons_zero])) | ((with_reducible show wpList _ _ _ (Oper.mk _ (Op.slice _ _ _ _ _) _ _ _ _ :: _) _ _); ((refine rd (by rfl) (ex_sliceL rfl rfl rfl (unhide HSL _)) ?_); simp only [Act.put, List.setIfInBounds_toArray, List.set_cons_succ, List.set_cons_zero]))))
      refine (num11 (erOf mm) _).mono ?_
      rintro e N1 ⟨rfl, hN⟩
      obtain rfl := hN.symm
      have hne : (erOf mm != erOf mm) = false := by simp
      have hn7 : ((-7 : Int) != -7) = false := by decide
      go_wp2_with (first | go_skip | ((with_reducible show wpList _ _ _ _ _ _); first | ((with_reducible show wpList _ _ _ (Oper.mk _ (Op.call _) _ _ _ _ :: _) _ _); ((refine rd (by rfl) (ex_lenG 23 35 Try.underlying23 rfl rfl) ?_); simp only [Act.put, List.setIfInBounds_toArray, List.set_cons_succ, List.set_cons_zero])) | ((with_reducible show wpList _ _ _ (Oper.mk _ (Op.slice _ _ _ _ _) _ _ _ _ :: _) _ _); ((refine rd (by rfl) (ex_sliceL rfl rfl rfl (unhide HSL _)) ?_); simp only [Act.put, List.setIfInBounds_toArray, List.set_cons_succ, List.set_cons_zero])) | ((with_reducible show wpList _ _ _ (Oper.mk _ (Op.binOp _ _ _ _ _) _ _ _ _ :: _) _ _); ((refine rd (by rfl) (ex_neI rfl rfl rfl hne) ?_); simp only [Act.put, List.setIfInBounds_toArray, List.set_cons_succ, List.set_cons_zero])) | ((with_reducible show wpList _ _ _ (Oper.mk _ (Op.binOp _ _ _ _ _) _ _ _ _ :: _) _ _); ((refine rd (by rfl) (ex_neI rfl rfl rfl hn7) ?_); simp only [Act.put, List.setIfInBounds_toArray, List.set_cons_succ, List.set_cons_zero])) | ((with_reducible show wpList _ _ _ (Oper.mk _ (Op.indexAddr _ _ _) _ _ _ _ :: _) _ _); ((refine rd (by rfl) (ex_indexAQ (q := q6) 23 29 l.length unLs idLs rfl rfl (unhide HA6) rfl (unhide HN6) (unhide HQ6)) ?_); simp only [Act.put, List.setIfInBounds_toArray, List.set_cons_succ, List.set_cons_zero])) | ((with_reducible show wpList _ _ _ (Oper.mk _ (Op.load _ _) _ _ _ _ :: _) _ _); ((refine rd (by rfl) (ex_loadC 3 Try.isAgg3 rfl rfl (unhide HC6 _ (unhide FF))) ?_); simp only [Act.put, List.setIfInBounds_toArray, List.set_cons_succ, List.set_cons_zero]))))
      refine (same_self la A5 A c5 ca _ ((unhide HRS).fr (unhide FF)) ((unhide HX).fr ((unhide HF2).trans (unhide FF) (by simp))).s (by have := (unhide HQ).1; omega)).mono ?_
      rintro e S3 ⟨rfl, hb⟩
      replace SSx := hide ((unhide SSx).on hb)
      replace SSy := hide ((unhide SSy).on hb)
      replace SSz := hide ((unhide SSz).on hb)
      replace FF := hide ((unhide FF).on hb)
      clear hb
      go_wp2_with (first | go_skip | ((with_reducible show wpList _ _ _ _ _ _); first | ((with_reducible show wpList _ _ _ (Oper.mk _ (Op.call _) _ _ _ _ :: _) _ _); ((refine rd (by rfl) (ex_lenG 23 35 Try.underlying23 rfl rfl) ?_); simp only [Act.put, List.setIfInBounds_toArray, List.set_cons_succ, List.set_cons_zero])) | ((with_reducible show wpList _ _ _ (Oper.mk _ (Op.slice _ _ _ _ _) _ _ _ _ :: _) _ _); ((refine rd (by rfl) (ex_sliceL rfl rfl rfl (unhide HSL _)) ?_); simp only [Act.put, List.setIfInBounds_toArray, List.set_cons_succ, List.set_cons_zero])) | ((with_reducible show wpList _ _ _ (Oper.mk _ (Op.binOp _ _ _ _ _) _ _ _ _ :: _) _ _); ((refine rd (by rfl) (ex_neI rfl rfl rfl hne) ?_); simp only [Act.put, List.setIfInBounds_toArray, List.set_cons_succ, List.set_cons_zero])) | ((with_reducible show wpList _ _ _ (Oper.mk _ (Op.binOp _ _ _ _ _) _ _ _ _ :: _) _ _); ((refine rd (by rfl) (ex_neI rfl rfl rfl hn7) ?_); simp only [Act.put, List.setIfInBounds_toArray, List.set_cons_succ, List.set_cons_zero])) | ((with_reducible show wpList _ _ _ (Oper.mk _ (Op.indexAddr _ _ _) _ _ _ _ :: _) _ _); ((refine rd (by rfl) (ex_indexAQ (q := q6) 23 29 l.length unLs idLs rfl rfl (unhide HA6) rfl (unhide HN6) (unhide HQ6)) ?_); simp only [Act.put, List.setIfInBounds_toArray, List.set_cons_succ, List.set_cons_zero])) | ((with_reducible show wpList _ _ _ (Oper.mk _ (Op.load _ _) _ _ _ _ :: _) _ _); ((refine rd (by rfl) (ex_loadC 3 Try.isAgg3 rfl rfl (unhide HC6 _ (unhide FF))) ?_); simp only [Act.put, List.setIfInBounds_toArray, List.set_cons_succ, List.set_cons_zero]))))
      refine (sameDeltas_self l A6 D c6 dc _ ((unhide HRD).fr (unhide FF)).m ((unhide HL).fr ((unhide HF2).trans (unhide FF) (by simp))).m (by have := unhide H4; omega)).mono ?_
      rintro e S4 ⟨rfl, hb⟩
      replace SSx := hide ((unhide SSx).on hb)
      replace SSy := hide ((unhide SSy).on hb)
      replace SSz := hide ((unhide SSz).on hb)
      replace FF := hide ((unhide FF).on hb)
      clear hb
      go_wp2_with (first | go_skip | ((with_reducible show wpList _ _ _ _ _ _); first | ((with_reducible show wpList _ _ _ (Oper.mk _ (Op.call _) _ _ _ _ :: _) _ _); ((refine rd (by rfl) (ex_lenG 23 35 Try.underlying23 rfl rfl) ?_); simp only [Act.put, List.setIfInBounds_toArray, List.set_cons_succ, List.set_cons_zero])) | ((with_reducible show wpList _ _ _ (Oper.mk _ (Op.slice _ _ _ _ _) _ _ _ _ :: _) _ _); ((refine rd (by rfl) (ex_sliceL rfl rfl rfl (unhide HSL _)) ?_); simp only [Act.put, List.setIfInBounds_toArray, List.set_cons_succ, List.set_cons_zero])) | ((with_reducible show wpList _ _ _ (Oper.mk _ (Op.binOp _ _ _ _ _) _ _ _ _ :: _) _ _); ((refine rd (by rfl) (ex_neI rfl rfl rfl hne) ?_); simp only [Act.put, List.setIfInBounds_toArray, List.set_cons_succ, List.set_cons_zero])) | ((with_reducible show wpList _ _ _ (Oper.mk _ (Op.binOp _ _ _ _ _) _ _ _ _ :: _) _ _); ((refine rd (by rfl) (ex_neI rfl rfl rfl hn7) ?_); simp only [Act.put, List.setIfInBounds_toArray, List.set_cons_succ, List.set_cons_zero])) | ((with_reducible show wpList _ _ _ (Oper.mk _ (Op.indexAddr _ _ _) _ _ _ _ :: _) _ _); ((refine rd (by rfl) (ex_indexAQ (q := q6) 23 29 l.length unLs idLs rfl rfl (unhide HA6) rfl (unhide HN6) (unhide HQ6)) ?_); simp only [Act.put, List.setIfInBounds_toArray, List.set_cons_succ, List.set_cons_zero])) | ((with_reducible show wpList _ _ _ (Oper.mk _ (Op.load _ _) _ _ _ _ :: _) _ _); ((refine rd (by rfl) (ex_loadC 3 Try.isAgg3 rfl rfl (unhide HC6 _ (unhide FF))) ?_); simp only [Act.put, List.setIfInBounds_toArray, List.set_cons_succ, List.set_cons_zero]))))
      refine (spoilM (unhide SSx) (unhide HMx) (unhide HGx) (unhide HML2)).mono ?_
      rintro e T1 ⟨rfl, hT⟩
      replace SSy := hide ((unhide SSy).far hT (fun b hb => ((unhide HEX) b hb).2))
      replace SSz := hide ((unhide SSz).far hT (fun b hb => Nat.lt_of_lt_of_le ((unhide HEX) b hb).2 (unhide HYY)))
      replace FF := hide ((unhide FF).trans hT (fun b hb => .inr ((unhide HEX) b hb).1))
      clear hT
      go_wp2_with (first | go_skip | ((with_reducible show wpList _ _ _ _ _ _); first | ((with_reducible show wpList _ _ _ (Oper.mk _ (Op.call _) _ _ _ _ :: _) _ _); ((refine rd (by rfl) (ex_lenG 23 35 Try.underlying23 rfl rfl) ?_); simp only [Act.put, List.setIfInBounds_toArray, List.set_cons_succ, List.set_cons_zero])) | ((with_reducible show wpList _ _ _ (Oper.mk _ (Op.slice _ _ _ _ _) _ _ _ _ :: _) _ _); ((refine rd (by rfl) (ex_sliceL rfl rfl rfl (unhide HSL _)) ?_); simp only [Act.put, List.setIfInBounds_toArray, List.set_cons_succ, List.set_cons_zero])) | ((with_reducible show wpList _ _ _ (Oper.mk _ (Op.binOp _ _ _ _ _) _ _ _ _ :: _) _ _); ((refine rd (by rfl) (ex_neI rfl rfl rfl hne) ?_); simp only [Act.put, List.setIfInBounds_toArray, List.set_cons_succ, List.set_cons_zero])) | ((with_reducible show wpList _ _ _ (Oper.mk _ (Op.binOp _ _ _ _ _) _ _ _ _ :: _) _ _); ((refine rd (by rfl) (ex_neI rfl rfl rfl hn7) ?_); simp only [Act.put, List.setIfInBounds_toArray, List.set_cons_succ, List.set_cons_zero])) | ((with_reducible show wpList _ _ _ (Oper.mk _ (Op.indexAddr _ _ _) _ _ _ _ :: _) _ _); ((refine rd (by rfl) (ex_indexAQ (q := q6) 23 29 l.length unLs idLs rfl rfl (unhide HA6) rfl (unhide HN6) (unhide HQ6)) ?_); simp only [Act.put, List.setIfInBounds_toArray, List.set_cons_succ, List.set_cons_zero])) | ((with_reducible show wpList _ _ _ (Oper.mk _ (Op.load _ _) _ _ _ _ :: _) _ _); ((refine rd (by rfl) (ex_loadC 3 Try.isAgg3 rfl rfl (unhide HC6 _ (unhide FF))) ?_); simp only [Act.put, List.setIfInBounds_toArray, List.set_cons_succ, List.set_cons_zero]))))
      refine (same_self (mm.getD []) Py Pz py pz _ (shO_reads (unhide SSy) (unhide HMy) (unhide HGy)) (shO_reads (unhide SSz) (unhide HMz) (unhide HGz)) (unhide HML)).mono ?_
      rintro e S5 ⟨rfl, hb⟩
      replace SSy := hide ((unhide SSy).on hb)
      replace SSz := hide ((unhide SSz).on hb)
      replace FF := hide ((unhide FF).on hb)
      clear hb
      go_wp2_with (first | go_skip | ((with_reducible show wpList _ _ _ _ _ _); first | ((with_reducible show wpList _ _ _ (Oper.mk _ (Op.call _) _ _ _ _ :: _) _ _); ((refine rd (by rfl) (ex_lenG 23 35 Try.underlying23 rfl rfl) ?_); simp only [Act.put, List.setIfInBounds_toArray, List.set_cons_succ, List.set_cons_zero])) | ((with_reducible show wpList _ _ _ (Oper.mk _ (Op.slice _ _ _ _ _) _ _ _ _ :: _) _ _); ((refine rd (by rfl) (ex_sliceL rfl rfl rfl (unhide HSL _)) ?_); simp only [Act.put, List.setIfInBounds_toArray, List.set_cons_succ, List.set_cons_zero])) | ((with_reducible show wpList _ _ _ (Oper.mk _ (Op.binOp _ _ _ _ _) _ _ _ _ :: _) _ _); ((refine rd (by rfl) (ex_neI rfl rfl rfl hne) ?_); simp only [Act.put, List.setIfInBounds_toArray, List.set_cons_succ, List.set_cons_zero])) | ((with_reducible show wpList _ _ _ (Oper.mk _ (Op.binOp _ _ _ _ _) _ _ _ _ :: _) _ _); ((refine rd (by rfl) (ex_neI rfl rfl rfl hn7) ?_); simp only [Act.put, List.setIfInBounds_toArray, List.set_cons_succ, List.set_cons_zero])) | ((with_reducible show wpList _ _ _ (Oper.mk _ (Op.indexAddr _ _ _) _ _ _ _ :: _) _ _); ((refine rd (by rfl) (ex_indexAQ (q := q6) 23 29 l.length unLs idLs rfl rfl (unhide HA6) rfl (unhide HN6) (unhide HQ6)) ?_); simp only [Act.put, List.setIfInBounds_toArray, List.set_cons_succ, List.set_cons_zero])) | ((with_reducible show wpList _ _ _ (Oper.mk _ (Op.load _ _) _ _ _ _ :: _) _ _); ((refine rd (by rfl) (ex_loadC 3 Try.isAgg3 rfl rfl (unhide HC6 _ (unhide FF))) ?_); simp only [Act.put, List.setIfInBounds_toArray, List.set_cons_succ, List.set_cons_zero]))))
      refine (same_self la A5 A c5 ca _ ((unhide HRS).fr (unhide FF)) ((unhide HX).fr ((unhide HF2).trans (unhide FF) (by simp))).s (by have := (unhide HQ).1; omega)).mono ?_
      rintro e S6 ⟨rfl, hb⟩
      replace SSy := hide ((unhide SSy).on hb)
      replace SSz := hide ((unhide SSz).on hb)
      replace FF := hide ((unhide FF).on hb)
      clear hb
      go_wp2_with (first | go_skip | ((with_reducible show wpList _ _ _ _ _ _); first | ((with_reducible show wpList _ _ _ (Oper.mk _ (Op.call _) _ _ _ _ :: _) _ _); ((refine rd (by rfl) (ex_lenG 23 35 Try.underlying23 rfl rfl) ?_); simp only [Act.put, List.setIfInBounds_toArray, List.set_cons_succ, List.set_cons_zero])) | ((with_reducible show wpList _ _ _ (Oper.mk _ (Op.slice _ _ _ _ _) _ _ _ _ :: _) _ _); ((refine rd (by rfl) (ex_sliceL rfl rfl rfl (unhide HSL _)) ?_); simp only [Act.put, List.setIfInBounds_toArray, List.set_cons_succ, List.set_cons_zero])) | ((with_reducible show wpList _ _ _ (Oper.mk _ (Op.binOp _ _ _ _ _) _ _ _ _ :: _) _ _); ((refine rd (by rfl) (ex_neI rfl rfl rfl hne) ?_); simp only [Act.put, List.setIfInBounds_toArray, List.set_cons_succ, List.set_cons_zero])) | ((with_reducible show wpList _ _ _ (Oper.mk _ (Op.binOp _ _ _ _ _) _ _ _ _ :: _) _ _); ((refine rd (by rfl) (ex_neI rfl rfl rfl hn7) ?_); simp only [Act.put, List.setIfInBounds_toArray, List.set_cons_succ, List.set_cons_zero])) | ((with_reducible show wpList _ _ _ (Oper.mk _ (Op.indexAddr _ _ _) _ _ _ _ :: _) _ _); ((refine rd (by rfl) (ex_indexAQ (q := q6) 23 29 l.length unLs idLs rfl rfl (unhide HA6) rfl (unhide HN6) (unhide HQ6)) ?_); simp only [Act.put, List.setIfInBounds_toArray, List.set_cons_succ, List.set_cons_zero])) | ((with_reducible show wpList _ _ _ (Oper.mk _ (Op.load _ _) _ _ _ _ :: _) _ _); ((refine rd (by rfl) (ex_loadC 3 Try.isAgg3 rfl rfl (unhide HC6 _ (unhide FF))) ?_); simp only [Act.put, List.setIfInBounds_toArray, List.set_cons_succ, List.set_cons_zero]))))
      go_ret
      exact ⟨rfl, ((unhide HF2).trans (unhide FF) (by simp)).below⟩
    · have d4 : decide ((400 : Int) < (l.length : Int)) = true := decide_eq_true (by omega)
      clear h4
      go_wp2_with (first | go_skip | ((with_reducible show wpList _ _ _ _ _ _); first | ((with_reducible show wpList _ _ _ (Oper.mk _ (Op.call _) _ _ _ _ :: _) _ _); ((refine rd (by rfl) (ex_lenG 23 35 Try.underlying23 rfl rfl) ?_); simp only [Act.put, List.setIfInBounds_toArray, List.set_cons_succ, List.set_cons_zero])) | ((with_reducible show wpList _ _ _ (Oper.mk _ (Op.binOp _ _ _ _ _) _ _ _ _ :: _) _ _); ((refine rd (by rfl) (ex_gtI rfl rfl rfl d4) ?_); simp only [Act.put, List.setIfInBounds_toArray, List.set_cons_succ, List.set_cons_zero]))))
      go_ret
      exact ⟨rfl, (unhide HF0).below⟩
end Go.Proofs.Ytcflglloopgieaa
