import Derived.Test.YtcflglloopgieaaKp
namespace Go.Proofs.Ytcflglloopgieaa
open Go Go.Proofs Go.Maps Go.RowKit FM
set_option linter.unusedSimpArgs false
set_option linter.unusedVariables false
set_option maxHeartbeats 1000000
theorem lvs_step_no {rs : List RW} {i : Nat} {r : RW} (hr : rs[i]? = some r) (hg : r.g = true) : lvs (rs.take (i + 1)) = lvs (rs.take i) := by
  obtain ⟨hi, rfl⟩ := List.getElem?_eq_some_iff.1 hr
  rw [List.take_succ_eq_append_getElem hi, lvs_append]
  simp [lvs, hg]
theorem lvs_step_yes {rs : List RW} {i : Nat} {r : RW} (hr : rs[i]? = some r) (hg : r.g = false) : lvs (rs.take (i + 1)) = lvs (rs.take i) ++ [r.p] := by
  obtain ⟨hi, rfl⟩ := List.getElem?_eq_some_iff.1 hr
  rw [List.take_succ_eq_append_getElem hi, lvs_append]
  simp [lvs, hg]
theorem lvs_len (rs : List RW) : (lvs rs).length ≤ rs.length := by
  unfold lvs
  rw [List.length_map]
  exact List.length_filter_le _ _
theorem plen {pl : List PR} {rs : List RW} {i k : Nat} (h : pl = lvs (rs.take i)) (h2 : rs.length ≤ k) (h3 : k ≤ 100000) : pl.length + 1 ≤ 1000000 := by
  have h1 := lvs_len (rs.take i)
  rw [← h, List.length_take] at h1
  omega
theorem flatP_add (l : List PR) (p : PR) : flatP (l ++ [p]) = flatP l ++ p.cs := by simp [flatP]
theorem lvs_good {rs : List RW} (h : ∀ r ∈ rs, OkP r.p ∧ SP r.p) : ∀ p ∈ lvs rs, OkP p ∧ SP p := by
  intro p hp
  obtain ⟨j, r, hj, _, rfl⟩ := lvs_mem hp
  exact h r (List.mem_of_getElem? hj)
set_option maxHeartbeats 2000000 in
set_option maxRecDepth 100000 in
theorem propsD_any (d : DR) (B k : Nat) (w X : World) (hf : Fr w X []) (hd : DI w X B k d) (hkb : k ≤ 100000) : Calls Try.prog 21 #[.pointer (some ⟨B, 0, none⟩)] X (NpPost X d.abs.ps) := by
  have HF := hide hf
  have HD := hide hd
  have HKB := hide hkb
  cases hx : d.rx
  · have HX := hide hx
    have hcs : d.cs = d.s.cs d.A d.cap ++ [.slice none 0 0, .map none] := by unfold DR.cs DR.tl; rw [hx]
    have HH := hide hd.hold
    rw [hcs] at HH
    clear hf hd hkb hx hcs
    go_enter Try.func21, Try.ntmps21
    go_wp2_with (first | go_skip | ((with_reducible show wpList _ _ _ _ _ _); first | ((refine rd (by rfl) (ex_load1 62 Try.isAgg62 rfl rfl ((unhide HH)) rfl) ?_); simp only [Act.put, List.setIfInBounds_toArray, List.set_cons_succ, List.set_cons_zero]) | ((refine rd (by rfl) (ex_load1 46 Try.isAgg46 rfl rfl ((unhide HH)) rfl) ?_); simp only [Act.put, List.setIfInBounds_toArray, List.set_cons_succ, List.set_cons_zero]) | ((refine rd (by rfl) (ex_eqM0 rfl rfl rfl) ?_); simp only [Act.put, List.setIfInBounds_toArray, List.set_cons_succ, List.set_cons_zero])))
    refine (newProps_any d.A d.cap d.s.ps _ ((unhide HD).rd.fr (unhide HF)) (unhide HD).gd.2.2.2 (by have := (unhide HD).gd.2.2.1; omega)).mono ?_
    rintro e Y1 ⟨A1, c1, rfl, hO, hb⟩
    have HO := hide (And.intro hO hb)
    clear hO hb HH
    go_wp2_with fail
    go_ret
    have e : d.abs.ps = d.s.ps := by simp [DR.abs, unhide HX]
    unfold NpPost
    rw [e]
    exact ⟨A1, c1, rfl, (unhide HO).1, (unhide HO).2⟩
  · rename_i x
    have hcs : d.cs = d.s.cs d.A d.cap ++ [x.v, .map (some x.mb)] := by unfold DR.cs DR.tl; rw [hx]
    have hr := hd.rows x hx
    have e : d.abs.ps = lvs x.rs := by simp [DR.abs, hx]
    rw [e]
    have HH := hide hd.hold
    rw [hcs] at HH
    obtain ⟨xv, rs, mb, nn, sz, FF⟩ := x
    dsimp only at hr HH hx ⊢
    have hown := hr.own
    dsimp only at hown
    obtain ⟨A0, c0, rfl⟩ := own_form hown
    clear hown
    have HRD : Hid (∀ (j : Nat) (r : RW), rs[j]? = some r → ∃ g, A0 = some ⟨g, 0, none⟩ ∧ ∀ Z, Fr X Z [] → Z.rangeAt g (0 + j * 22) r.cs) := hide (fun j r hj => by
    obtain ⟨g, c, h1, h2, h3, _⟩ := own_at hr.own rfl hj
    cases h1
    exact ⟨g, rfl, fun Z hZ => rangeAt_fr h3 h2 hZ⟩)
    have HGR := hide (lvs_good hr.gr)
    have HLN := hide hr.len
    have HH2 := hide (And.intro hd.lo hx)
    have LL := hide (Sy.nil X [])
    have HS0 : Hid (X.ownsRow X.heap.size 56 20 (.slice none 0 0) 0 []) := hide ⟨rfl, .inl ⟨rfl, rfl⟩⟩
    clear hf hd hkb hx hcs hr e
    go_enter Try.func21, Try.ntmps21
    go_wp2_with (first | go_skip | ((with_reducible show wpList _ _ _ _ _ _); first | ((refine rd (by rfl) (ex_load1 62 Try.isAgg62 rfl rfl ((unhide HH)) rfl) ?_); simp only [Act.put, List.setIfInBounds_toArray, List.set_cons_succ, List.set_cons_zero]) | ((refine rd (by rfl) (ex_load1 61 Try.isAgg61 rfl rfl ((unhide HH)) rfl) ?_); simp only [Act.put, List.setIfInBounds_toArray, List.set_cons_succ, List.set_cons_zero]) | ((refine rd (by rfl) (ex_eqM rfl rfl rfl) ?_); simp only [Act.put, List.setIfInBounds_toArray, List.set_cons_succ, List.set_cons_zero]) | ((refine rd (by rfl) (ex_lenG 61 74 Try.underlying61 rfl rfl) ?_); simp only [Act.put, List.setIfInBounds_toArray, List.set_cons_succ, List.set_cons_zero])))
    go_loopg [3, 22] rs.length (fun gm s3 s22 wr => ∃ (i : Nat) (A : Option Addr) (c : Nat) (pl : List PR), s22 = .int .i64 (i : Nat) ∧ i ≤ rs.length ∧ rs.length - i ≤ gm ∧ s3 = .slice A pl.length c ∧ Hid (pl = lvs (rs.take i)) ∧ Hid (Sy X wr [] [rowO X.heap.size 56 20 (.slice A pl.length c) pl.length (flatP pl)]))
    case atStart => exact ⟨0, none, 0, [], rfl, by omega, by omega, rfl, hide (by simp [lvs]), hide ⟨Fr.refl _ _, by simp [rowO_ok], by simpa [rowO, flatP] using unhide HS0, by simp [rowO, Value.ownBlock], by simp⟩⟩
    case round =>
      clear LL
      obtain ⟨i, A, c, pl, rfl, hil, hgm, rfl, HPL, LL⟩ := hrel
      by_cases hlt : i < rs.length
      · have dlt : decide ((i : Int) < (rs.length : Int)) = true := decide_eq_true (by omega)
        have hw1 : IntKind.i64.wrap ((i : Int) + 1) = (i : Int) + 1 := by have := unhide HLN; have := unhide HKB; rw [IntKind.wrap_i64]; omega
        obtain ⟨r, hr⟩ : ∃ r, rs[i]? = some r := ⟨_, List.getElem?_eq_getElem hlt⟩
        obtain ⟨g, hA0, hrg⟩ := (unhide HRD) i r hr
        have HA := hide hA0
        have HA2 := hide hrg
        have HLT := hide hlt
        have HR := hide hr
        have hpb : pl.length + 1 ≤ 1000000 := plen (unhide HPL) (unhide HLN) (unhide HKB)
        have HPB := hide hpb
        clear hA0 hrg hlt hil hr hpb
        cases hgo : r.g
        · have HGO : Hid (r.cs[21]? = some (.bool false)) := hide (by show some (Value.bool r.g) = _; rw [hgo])
          have HPN : Hid (pl ++ [r.p] = lvs (rs.take (i + 1))) := hide (by rw [lvs_step_yes (unhide HR) hgo, ← unhide HPL])
          clear hgo
          go_wp2_with (first | go_skip | ((with_reducible show wpList _ _ _ _ _ _); first | ((refine rd (by rfl) (ex_indexA 61 22 i unWs idWs rfl rfl (unhide HA) rfl (unhide HLT)) ?_); simp only [Act.put, List.setIfInBounds_toArray, List.set_cons_succ, List.set_cons_zero]) | ((refine rd (by rfl) (ex_loadR (vs := r.cs) 74 22 rwW szW rfl rfl (unhide HA2 _ (unhide LL).fr) rfl) ?_); simp only [Act.put, List.setIfInBounds_toArray, List.set_cons_succ, List.set_cons_zero]) | ((refine alP (v := .agg (zeroW.cs).toArray) 74 (zeroW.cs) (by rfl) rfl (fun w => by kernel_rfl) rfl (Nat.succ_pos _) (unhide LL) ?_); intro X5 B5 hE5 L5 hb5; replace LL := hide L5; clear L5 hb5 hE5; simp only [Act.put, List.setIfInBounds_toArray, List.set_cons_succ, List.set_cons_zero]) | ((refine stS (vs := r.cs) 0 74 (by rfl) rfl rfl rfl rfl (wcs_one r) szW (unhide LL) rfl (by simp [cput, RW.cs, PR.cs, KK.cs, DD.cs, zeroW, zeroP, zeroD, zeroV]) ?_); intro X6 L6 hf6 hs6; replace LL := hide L6; clear L6 hf6 hs6; simp only [Act.put, List.setIfInBounds_toArray, List.set_cons_succ, List.set_cons_zero]) | ((refine rd (by rfl) (ex_load1 4 Try.isAgg4 (v := .bool false) rfl rfl ((unhide LL).hold 0 rfl) (unhide HGO)) ?_); simp only [Act.put, List.setIfInBounds_toArray, List.set_cons_succ, List.set_cons_zero]) | ((refine rd (by rfl) (ex_lenG 61 74 Try.underlying61 rfl rfl) ?_); simp only [Act.put, List.setIfInBounds_toArray, List.set_cons_succ, List.set_cons_zero]) | ((refine rd (by rfl) (ex_loadN (vs := r.p.cs) 56 20 rwP szP rfl rfl ((unhide LL).hold 0 rfl) rfl rfl) ?_); simp only [Act.put, List.setIfInBounds_toArray, List.set_cons_succ, List.set_cons_zero]) | ((refine bsP (cs := r.p.cs) (by rfl) rfl rfl Try.underlying46 inf46 (by decide) rfl rfl (by decide) (unhide LL) ?_); intro X8 B8 hE8 L8 hb8; replace LL := hide L8; clear L8 hb8 hE8; simp only [Act.put, List.setIfInBounds_toArray, List.set_cons_succ, List.set_cons_zero]) | ((refine apS (size := 20) (bytes := 192) (base := X.heap.size) (k := pl.length) (xs := flatP pl) (news := r.p.cs) (v := .slice A pl.length c) 2 0 rfl rfl rfl rfl Try.underlying46 inf46 rfl (by decide) (unhide LL) rfl rfl rfl (pcs_one r.p) (unhide HPB) (by decide) (unhide LL).fr.size ?_); intro A9 c9 X9 L9; replace LL := hide L9; clear L9; simp only [Act.put, List.setIfInBounds_toArray, List.set_cons_succ, List.set_cons_zero])))
          have LN : Hid (Sy X X9 [] [rowO X.heap.size 56 20 (.slice A9 (pl ++ [r.p]).length c9) (pl ++ [r.p]).length (flatP (pl ++ [r.p]))]) := hide (by rw [flatP_add, List.length_append]; exact (unhide LL).tail.tail)
          clear LL
          go_roundg (rs.length - (i + 1))
          case measure => have := unhide HLT; omega
          case rel => exact ⟨i + 1, A9, c9, pl ++ [r.p], by go_num, by have := unhide HLT; omega, by omega, by simp, HPN, LN⟩
        · have HGO : Hid (r.cs[21]? = some (.bool true)) := hide (by show some (Value.bool r.g) = _; rw [hgo])
          have HPN : Hid (pl = lvs (rs.take (i + 1))) := hide (by rw [lvs_step_no (unhide HR) hgo]; exact unhide HPL)
          clear hgo
          go_wp2_with (first | go_skip | ((with_reducible show wpList _ _ _ _ _ _); first | ((refine rd (by rfl) (ex_indexA 61 22 i unWs idWs rfl rfl (unhide HA) rfl (unhide HLT)) ?_); simp only [Act.put, List.setIfInBounds_toArray, List.set_cons_succ, List.set_cons_zero]) | ((refine rd (by rfl) (ex_loadR (vs := r.cs) 74 22 rwW szW rfl rfl (unhide HA2 _ (unhide LL).fr) rfl) ?_); simp only [Act.put, List.setIfInBounds_toArray, List.set_cons_succ, List.set_cons_zero]) | ((refine alP (v := .agg (zeroW.cs).toArray) 74 (zeroW.cs) (by rfl) rfl (fun w => by kernel_rfl) rfl (Nat.succ_pos _) (unhide LL) ?_); intro X5 B5 hE5 L5 hb5; replace LL := hide L5; clear L5 hb5 hE5; simp only [Act.put, List.setIfInBounds_toArray, List.set_cons_succ, List.set_cons_zero]) | ((refine stS (vs := r.cs) 0 74 (by rfl) rfl rfl rfl rfl (wcs_one r) szW (unhide LL) rfl (by simp [cput, RW.cs, PR.cs, KK.cs, DD.cs, zeroW, zeroP, zeroD, zeroV]) ?_); intro X6 L6 hf6 hs6; replace LL := hide L6; clear L6 hf6 hs6; simp only [Act.put, List.setIfInBounds_toArray, List.set_cons_succ, List.set_cons_zero]) | ((refine rd (by rfl) (ex_load1 4 Try.isAgg4 (v := .bool true) rfl rfl ((unhide LL).hold 0 rfl) (unhide HGO)) ?_); simp only [Act.put, List.setIfInBounds_toArray, List.set_cons_succ, List.set_cons_zero]) | ((refine rd (by rfl) (ex_lenG 61 74 Try.underlying61 rfl rfl) ?_); simp only [Act.put, List.setIfInBounds_toArray, List.set_cons_succ, List.set_cons_zero])))
          replace LL := hide (unhide LL).tail
          go_roundg (rs.length - (i + 1))
          case measure => have := unhide HLT; omega
          case rel => exact ⟨i + 1, A, c, pl, by go_num, by have := unhide HLT; omega, by omega, rfl, HPN, LL⟩
      · obtain rfl : i = rs.length := by omega
        clear hlt hil
        go_wp2_with (first | go_skip | ((with_reducible show wpList _ _ _ _ _ _); first | ((refine rd (by rfl) (ex_lenG 61 74 Try.underlying61 rfl rfl) ?_); simp only [Act.put, List.setIfInBounds_toArray, List.set_cons_succ, List.set_cons_zero])))
        have hpl : pl = lvs rs := by rw [unhide HPL, List.take_length]
        have hok : ∀ p ∈ pl, OkP p ∧ SP p := fun p hp => (unhide HGR) p (hpl ▸ hp)
        have hown : wr.ownsRow X.heap.size 56 20 (.slice A pl.length c) pl.length (flatP pl) := (unhide LL).get 0 rfl
        have hrp := own_readsP (fun p hp => (hok p hp).1) hown
        have hpz : pl.length ≤ 100000 := by have := plen (unhide HPL) (unhide HLN) (unhide HKB); have h2 := lvs_len rs; rw [← hpl] at h2; have := unhide HLN; have := unhide HKB; omega
        have hnp := newProps_any A c pl wr hrp (fun p hp => (hok p hp).2) hpz
        replace HPL := hide hpl
        clear hpl hok hown hrp hpz
        refine hnp.mono ?_
        clear hnp
        rintro e Y1 ⟨A1, c1, rfl, hO, hb⟩
        have HO := hide (And.intro (own_mono hO (unhide LL).fr.size) ((unhide LL).fr.on hb).below)
        clear hO hb
        go_wp2_with fail
        go_ret
        unfold NpPost
        rw [← unhide HPL]
        exact ⟨A1, c1, rfl, (unhide HO).1, (unhide HO).2⟩
def ShPost (w : World) (l : List SH) (e : Ending) (X : World) : Prop := ∃ (A : Option Addr) (c : Nat), e = .returned (.slice A l.length c) ∧ ReadsS X A l ∧ Below w.heap.size w X
theorem abs_good {w X : World} {B k : Nat} {d : DR} (h : DI w X B k d) (hk : k ≤ 100000) : d.abs.p.x < 2 ^ 64 ∧ d.abs.ps.length ≤ 733007751850 ∧ ∀ p ∈ d.abs.ps, OkP p := by
  refine ⟨h.gd.2.1, ?_, ?_⟩
  · cases hx : d.rx with
    | none =>
      have : d.abs.ps = d.s.ps := by simp [DR.abs, hx]
      rw [this]
      have := h.gd.2.2.1
      omega
    | some x =>
      have : d.abs.ps = lvs x.rs := by simp [DR.abs, hx]
      rw [this]
      have h1 := lvs_len x.rs
      have := (h.rows x hx).len
      omega
  · cases hx : d.rx with
    | none =>
      have : d.abs.ps = d.s.ps := by simp [DR.abs, hx]
      rw [this]
      intro p hp
      obtain ⟨j, hj⟩ := List.getElem?_of_mem hp
      exact (h.rd j p hj).1
    | some x =>
      have : d.abs.ps = lvs x.rs := by simp [DR.abs, hx]
      rw [this]
      exact fun p hp => (lvs_good (h.rows x hx).gr p hp).1
theorem DI.on {w X Y : World} {B k : Nat} {d : DR} (h : DI w X B k d) (hf : Fr X Y []) : DI w Y B k d :=
  (drO_ok w B k d).on (fun b hb => hf.block b ((drO_ok w B k d).lt h b hb) (by simp)) h
set_option maxHeartbeats 4000000 in
set_option maxRecDepth 100000 in
theorem shapes_any (w X : World) (v : Value) (ds : List DB) (hS : Sy w X [] (core w v ds)) (hn : ds.length ≤ 100000) (hks : ∀ p ∈ ds, p.k ≤ 100000) : Calls Try.prog 14 #[v] X (ShPost X (absL ds)) := by
  have HN := hide hn
  have HKS := hide hks
  obtain ⟨A, c, rfl⟩ := own_form (hS.get 0 rfl)
  have HS0 := hide hS
  clear hS hn hks
  go_enter Try.func14, Try.ntmps14
  go_wp2_with (first | go_skip | ((with_reducible show wpList _ _ _ _ _ _); first | ((refine rd (by rfl) (ex_lenG 50 60 Try.underlying50 rfl rfl) ?_); simp only [Act.put, List.setIfInBounds_toArray, List.set_cons_succ, List.set_cons_zero]) | ((refine mk_any ds.length (by rfl) rfl rfl rfl Try.underlying22 inf28 (unhide HN) (by decide) (by decide) ?_); intro X1 hO1 hb1; have HC : Hid (CRow X X1 (absL ds) (.slice (some ⟨X.heap.size, 0, none⟩) 0 ds.length) []) := hide ⟨hO1, (fun j e he => by simp at he), (fun e he => by simp at he), bfr hb1⟩; clear hO1 hb1; simp only [Act.put, List.setIfInBounds_toArray, List.set_cons_succ, List.set_cons_zero])))
  go_loopg [3, 12] ds.length (fun gm s3 s12 wr => ∃ (i : Nat) (cl : List CE), s12 = .int .i64 (i : Nat) ∧ i ≤ ds.length ∧ ds.length - i ≤ gm ∧ cl.length = i ∧ Hid (CRow X wr (absL ds) s3 cl))
  case atStart => exact ⟨0, [], rfl, by omega, by omega, rfl, HC⟩
  case round =>
    clear HC
    obtain ⟨i, cl, rfl, hil, hgm, hcl, HC⟩ := hrel
    by_cases hlt : i < ds.length
    · have dlt : decide ((i : Int) < (ds.length : Int)) = true := decide_eq_true (by omega)
      have hw1 : IntKind.i64.wrap ((i : Int) + 1) = (i : Int) + 1 := by have := unhide HN; rw [IntKind.wrap_i64]; omega
      obtain ⟨p, hp⟩ : ∃ p, ds[i]? = some p := ⟨_, List.getElem?_eq_getElem hlt⟩
      obtain ⟨g, c0, hv, hce⟩ := ptr_at ((unhide HS0).get 0 rfl) hp
      have hglt := (World.ownsRow.lt ((unhide HS0).get 0 rfl) g (by rw [hv]; rfl)).2
      cases hv
      have hdi : DI w X p.b p.k p.d := (unhide HS0).ho (dbO w p) (List.mem_cons_of_mem _ (List.mem_map.2 ⟨p, List.mem_of_getElem? hp, rfl⟩))
      have hkp := (unhide HKS) p (List.mem_of_getElem? hp)
      have HS : Hid ((absL ds)[cl.length]? = some p.d.abs) := hide (by rw [hcl]; simp [absL, hp])
      obtain ⟨b, k, d⟩ := p
      dsimp only at *
      have HA1 : Hid (some (⟨g, 0, none⟩ : Addr) = some ⟨g, 0, none⟩) := hide rfl
      have HA2 : Hid (∀ Z, Fr X Z [] → Z.cell? ⟨g, 0 + i * 1, none⟩ = some (.pointer (some ⟨b, 0, none⟩))) := hide (fun Z hZ => (World.cell?_of_block (hZ.block g hglt (by simp))).trans hce)
      have HDI : Hid (∀ Z, Fr X Z [] → DI w Z b k d) := hide (fun Z hZ => hdi.on hZ)
      have HOKP := hide (abs_good hdi hkp).2.2
      have HSV := hide hdi.gd.1
      have HKP := hide hkp
      have HLT := hide hlt
      have HF := hide (unhide HC).fr
      have LL := hide (Hq.nil wr [])
      clear hp hce hglt hdi hkp hlt hil
      go_wp2_with (first | go_skip | ((with_reducible show wpList _ _ _ _ _ _); first | ((refine rd (by rfl) (ex_lenG 50 60 Try.underlying50 rfl rfl) ?_); simp only [Act.put, List.setIfInBounds_toArray, List.set_cons_succ, List.set_cons_zero]) | ((refine rd (by rfl) (ex_indexA 50 1 i unXs idXs rfl rfl (unhide HA1) rfl (unhide HLT)) ?_); simp only [Act.put, List.setIfInBounds_toArray, List.set_cons_succ, List.set_cons_zero]) | ((refine rd (by rfl) (ex_loadC 60 Try.isAgg60 rfl rfl (unhide HA2 _ ((unhide HF).trans (unhide LL).fr (by simp)))) ?_); simp only [Act.put, List.setIfInBounds_toArray, List.set_cons_succ, List.set_cons_zero]) | ((refine rd (by rfl) (ex_loadN (vs := d.s.cs d.A d.cap) 48 8 rwS szS rfl rfl (unhide HDI _ ((unhide HF).trans (unhide LL).fr (by simp))).hold rfl rfl) ?_); simp only [Act.put, List.setIfInBounds_toArray, List.set_cons_succ, List.set_cons_zero]) | ((refine alG 48 (zeroS.cs none 0) (by rfl) rfl (fun w => by kernel_rfl) (Nat.succ_pos _) (unhide LL) ?_); intro X5 B5 hE5 L5 hb5; have hB5 := hide (Nat.le_trans (unhide LL).fr.size (Nat.le_of_eq hE5.symm)); replace LL := hide L5; clear L5 hb5 hE5; simp only [Act.put, List.setIfInBounds_toArray, List.set_cons_succ, List.set_cons_zero]) | ((refine st (vs := d.s.cs d.A d.cap) 0 48 (by rfl) rfl rfl rfl rfl (shcs_one d.s d.A d.cap) (szS) (unhide LL) rfl (by simp [cput, PR.cs, SH.cs, VV.cs, KK.cs, DD.cs, CO.cs, DL.cs, zeroP, zeroS, zeroD, zeroV]) (Or.inr (unhide hB5)) ?_); intro X6 L6 hf6 hs6; replace LL := hide L6; clear L6 hf6 hs6; simp only [Act.put, List.setIfInBounds_toArray, List.set_cons_succ, List.set_cons_zero]) | ((refine rd (by rfl) (ex_loadN (vs := d.s.p.cs) 28 5 rwV szV rfl rfl ((unhide LL).get 0 rfl) rfl rfl) ?_); simp only [Act.put, List.setIfInBounds_toArray, List.set_cons_succ, List.set_cons_zero])))
      have hnv := newValue_any d.s.p
      simp only [vagg] at hnv
      refine (hnv _ (unhide HSV)).mono ?_
      clear hnv
      rintro e Y2 ⟨rfl, hY2⟩
      replace LL := hide ((unhide LL).on hY2)
      clear hY2
      go_wp2_with fail
      refine (propsD_any d b k w _ ((unhide HS0).fr.trans ((unhide HF).trans (unhide LL).fr (by simp)) (by simp)) (unhide HDI _ ((unhide HF).trans (unhide LL).fr (by simp))) (unhide HKP)).mono ?_
      rintro e Y3 ⟨A8, c8, rfl, hO, hb⟩
      have hne5 : ∀ g, (Value.slice A8 d.abs.ps.length c8).ownBlock = some g → g ∉ [B5] := fun g hg hm => by
        have h1 := (World.ownsRow.lt hO g hg).1
        have h2 := (unhide LL).lt _ (List.mem_singleton.2 rfl)
        rw [List.mem_singleton.1 hm] at h1
        dsimp only at h2
        omega
      have HO : Hid (Y3.ownsRow wr.heap.size 56 20 (.slice A8 d.abs.ps.length c8) d.abs.ps.length (flatP d.abs.ps) ∧ ∀ g, (Value.slice A8 d.abs.ps.length c8).ownBlock = some g → g ∉ [B5]) := hide ⟨own_mono hO (unhide LL).fr.size, hne5⟩
      replace LL := hide ((unhide LL).on hb)
      clear hO hb hne5
      go_wp2_with (first | go_skip | ((with_reducible show wpList _ _ _ _ _ _); first | ((refine rd (by rfl) (ex_lenG 50 60 Try.underlying50 rfl rfl) ?_); simp only [Act.put, List.setIfInBounds_toArray, List.set_cons_succ, List.set_cons_zero]) | ((refine st (vs := d.s.p.cs) 0 28 (by rfl) rfl rfl rfl rfl (vcs_one d.s.p) szV (unhide LL) rfl (by simp [cput, SH.cs, VV.cs, zeroS]) (Or.inr (unhide hB5)) ?_); intro X7 L7 hf7 hs7; have HO7 : Hid (X7.ownsRow wr.heap.size 56 20 (.slice A8 d.abs.ps.length c8) d.abs.ps.length (flatP d.abs.ps) ∧ True) := hide ⟨own_blk (unhide HO).1 (fun g hg => hf7.block g (World.ownsRow.lt (unhide HO).1 g hg).2 ((unhide HO).2 g hg)), trivial⟩; replace LL := hide L7; clear L7 hf7 hs7; simp only [Act.put, List.setIfInBounds_toArray, List.set_cons_succ, List.set_cons_zero]) | ((refine st (vs := [.slice A8 d.abs.ps.length c8]) 0 46 (by rfl) rfl rfl rfl rfl (by simp [Value.oneCell']) szPs (unhide LL) rfl (by simp [cput, SH.cs, VV.cs, zeroS]) (Or.inr (unhide hB5)) ?_); intro X9 L9 hf9 hs9; have HO9 : Hid (X9.ownsRow wr.heap.size 56 20 (.slice A8 d.abs.ps.length c8) d.abs.ps.length (flatP d.abs.ps) ∧ True) := hide ⟨own_blk (unhide HO7).1 (fun g hg => hf9.block g (World.ownsRow.lt (unhide HO7).1 g hg).2 ((unhide HO).2 g hg)), trivial⟩; replace LL := hide L9; clear L9 hf9 hs9 HO7; simp only [Act.put, List.setIfInBounds_toArray, List.set_cons_succ, List.set_cons_zero]) | ((refine rd (by rfl) (ex_loadN (vs := d.abs.cs A8 c8) 48 8 rwS szS rfl rfl ((unhide LL).get 0 rfl) rfl rfl) ?_); simp only [Act.put, List.setIfInBounds_toArray, List.set_cons_succ, List.set_cons_zero]) | ((refine build_any (z := zeroS.agg none 0) (size := 8) (bytes := 88) (cs := d.abs.cs A8 c8) (by rfl) rfl rfl Try.underlying22 inf28 (by omega) rfl rfl (by omega) (unhide LL) ?_); intro X10 B10 hE10 L10 hb10; replace HO9 := hide (And.intro (own_fr (unhide HO9).1 (Fr.of_below hb10 [])) trivial); replace LL := hide L10; clear L10 hb10 hE10; simp only [Act.put, List.setIfInBounds_toArray, List.set_cons_succ, List.set_cons_zero]) | ((with_reducible refine append_any (z := zeroS.agg none 0) (size := 8) (bytes := 88) (n := cl.length) (m := 1) (base := X.heap.size) (news := d.abs.cs A8 c8) (by rfl) rfl rfl rfl Try.underlying22 inf28 rfl (by omega) (own_fr (unhide HC).own (unhide LL).fr) ((unhide LL).get 1 rfl) rfl (shcs_one d.abs A8 c8) (by have := unhide HN; have := unhide HLT; omega) (by omega) (Nat.le_trans (unhide HF).size (unhide LL).fr.size) ?_); intro A11 c11 X11 hO11 hg11 hF11; have HNEW : Hid (CRow X X11 (absL ds) (.slice A11 (cl.length + 1) c11) (cl ++ [⟨d.abs, A8, c8⟩])) := hide (CRow.snoc ((unhide HC).on (unhide LL).fr) hO11 hg11 hF11 (unhide HS) (own_readsP (unhide HOKP) (unhide HO9).1) (fun b o hb => by subst hb; have h1 := World.ownsRow.lt (unhide HO9).1 b rfl; refine ⟨h1.2, fun h2 => ?_⟩; have h3 := World.ownsRow.lt (unhide HC).own b h2; omega)); clear hO11 hg11 hF11 HO9 LL; simp only [Act.put, List.setIfInBounds_toArray, List.set_cons_succ, List.set_cons_zero])))
      go_roundg (ds.length - (i + 1))
      case measure => have := unhide HLT; omega
      case rel => exact ⟨i + 1, cl ++ [⟨d.abs, A8, c8⟩], by go_num, by have := unhide HLT; omega, by omega, by rw [List.length_append, hcl]; rfl, HNEW⟩
    · obtain rfl : i = ds.length := by omega
      have hll : (absL ds).length = ds.length := by simp [absL]
      obtain ⟨Ac, cc, hf, hRS⟩ := (unhide HC).reads (by rw [hcl, hll]) (fun j s hs => by
        obtain ⟨p, hp, rfl⟩ : ∃ p, ds[j]? = some p ∧ p.d.abs = s := by simpa [absL] using hs
        have hdi : DI w X p.b p.k p.d := (unhide HS0).ho (dbO w p) (List.mem_cons_of_mem _ (List.mem_map.2 ⟨p, List.mem_of_getElem? hp, rfl⟩))
        exact ⟨(abs_good hdi ((unhide HKS) p (List.mem_of_getElem? hp))).1, (abs_good hdi ((unhide HKS) p (List.mem_of_getElem? hp))).2.1⟩)
      subst hf
      have HRS := hide (And.intro hRS (unhide HC).fr.below)
      clear hlt hil hRS hll
      go_wp2_with (first | go_skip | ((with_reducible show wpList _ _ _ _ _ _); first | ((refine rd (by rfl) (ex_lenG 50 60 Try.underlying50 rfl rfl) ?_); simp only [Act.put, List.setIfInBounds_toArray, List.set_cons_succ, List.set_cons_zero])))
      go_ret
      exact ⟨Ac, cc, rfl, (unhide HRS).1, (unhide HRS).2⟩
end Go.Proofs.Ytcflglloopgieaa
