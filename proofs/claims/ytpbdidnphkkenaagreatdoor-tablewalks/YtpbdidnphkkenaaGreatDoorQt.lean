import Derived.Test.YtpbdidnphkkenaaGreatDoorQs
set_option linter.all false
namespace Go.Proofs.YtpbdidnphkkenaaGreatDoor
section
open Go Go.Proofs Go.RowKit
theorem mg_nil : mg [] = [] := by unfold mg; simp
theorem mg_le (l : List KK) : ∀ u ∈ mg (ixs l), u ≤ 4294967295 := by
  intro u hu
  unfold mg at hu
  rw [List.mem_mergeSort] at hu
  unfold ixs at hu
  obtain ⟨k, _, rfl⟩ := List.mem_map.1 hu
  have := kn_le k.s k.n
  unfold kn
  omega
theorem LiesU.blk {w w' : World} {g : Nat} {d : Array Nat} {ob : Option Obj} (h : LiesU w g d) (he : w'.heap[g]? = ob) (h2 : ob = w.heap[g]?) : LiesU w' g d := by
  obtain ⟨r, hr⟩ := h
  exact ⟨r, by rw [he, h2, hr]⟩
set_option maxHeartbeats 20000000 in
set_option maxRecDepth 100000 in
theorem ordered_rows (b off cap : Nat) (l : List KK) (hz : ∀ k ∈ l, k.s.size ≤ 1048576) (w : World) (htab : TabP w) (hb : b < w.heap.size) (hr : RowsK w b off l) (hlen : l.length ≤ 1500000) : Calls Tryz.prog 51 #[.slice (some ⟨b, off, none⟩) l.length cap] w fun e w' => ∃ v, e = .returned v ∧ OwnK w' w.heap.size v (outK (mg (ixs l)) ++ strs l ++ syms l) ∧ Below w.heap.size w w' := by
  have HT := hide htab
  clear htab
  have HRD := hide hr
  have HFD := hide hz
  clear hr hz
  go_enter Tryz.func51, Tryz.ntmps51
  go_wp2_with fail
  go_loopg [3, 4, 5, 15] l.length (fun gm s3 s4 s5 s15 wr => ∃ j : Nat, s15 = .int .i64 j ∧ j ≤ l.length ∧ l.length - j ≤ gm ∧ Hid (G3 w wr s3 s4 s5 (l.take j)))
  case atStart => exact ⟨0, rfl, by omega, by omega, hide (R3.nil w)⟩
  case round =>
    obtain ⟨j, rfl, hj, hg, H3⟩ := hrel
    by_cases hlt : j < l.length
    · have hjz : (j : Int) < l.length := by omega
      obtain ⟨d, hd⟩ : ∃ d, d = l[j] := ⟨_, rfl⟩
      have hst := step_take l j hlt
      rw [← hd] at hst
      have hsz : d.s.size ≤ 1048576 := by rw [hd]; exact unhide HFD _ (List.getElem_mem hlt)
      have HR : Hid (wr.rangeAt b (off + j * 2) d.cs) := hide (by rw [hd]; exact (unhide HRD).keep ((unhide H3).below.block b hb) j hlt)
      have HN3 : Hid ((ixs (l.take j)).length ≤ 5000000) := hide (by have := ixs_len (l.take j); rw [List.length_take] at this; omega)
      have HN4 : Hid ((strs (l.take j)).length + [d].length ≤ 5000000) := hide (by have := strs_len (l.take j); rw [List.length_take] at this; simp; omega)
      have HN5 : Hid ((syms (l.take j)).length + [d].length ≤ 5000000) := hide (by have := syms_len (l.take j); rw [List.length_take] at this; simp; omega)
      have HK := hide (kindOf22 d.s d.n (by omega))
      have HAn := hide (anew30 d.s d.n hsz)
      rw [agg_key] at HK HAn
      have ekd : kdOf d.s d.n = kd d := rfl
      have ekn : knOf d.s d.n = kn d := rfl
      rw [ekd, ekn] at HK
      have hkr := kd_range d.s d.n
      rw [ekd] at hkr
      clear hd ekd ekn
      have LL := hide (Kq.nil wr)
      replace H3 : Hid (R3 w wr u3 u4 u5 (ixs (l.take j)) (strs (l.take j)) (syms (l.take j))) := H3
      by_cases h0 : kd d = 0
      · rw [h0] at HK
        obtain ⟨q1, q2, q3⟩ := step_0 (l.take j) d h0
        rw [← hst] at q1 q2 q3
        have HQ := hide (And.intro q1 (And.intro q2 q3))
        clear q1 q2 q3 hst h0 hkr
        go_wp2_with (first | go_skip | ((with_reducible apply kindex (j := j)); (case ho => rfl); (case hw => rfl); (case hx => rfl); (case hix => rfl); (case hj => exact hlt); simp only [Act.put, nzA, nzB, nzC]) | ((with_reducible apply kread (d := d)); (case ho => rfl); (case hw => rfl); (case hx => rfl); (case hc => exact unhide HR); simp only [Act.put, nzA, nzB, nzC]) | ((with_reducible apply kalloc23); (case ho => rfl); (case hw => rfl); (case hL => exact unhide LL); (intro X LX hbX; simp only [Act.put, nzA, nzB, nzC]; simp only [List.cons_append, List.nil_append] at LX; replace LL := hide LX; clear LX hbX)) | ((with_reducible apply kstore23 (u := d) (l := []) (d := zeroK)); (case ho => rfl); (case hw => rfl); (case hL => exact unhide LL); (case hx => rfl); (case hy => rfl); (case hm => rfl); (case hne => exact fun q hq => by cases hq); (intro X LX hgX hsX; simp only [Act.put, nzA, nzB, nzC]; simp only [List.cons_append, List.nil_append] at LX; replace LL := hide LX; clear LX hgX hsX)) | ((with_reducible apply load23); (case ho => rfl); (case hw => rfl); (case hx => rfl); (case hc => first | exact (unhide LL).get 0 rfl); simp only [Act.put, nzA, nzB, nzC]))
        refine (unhide HK _).mono ?_
        rintro _ w1 ⟨rfl, hb1⟩
        replace LL := hide ((unhide LL).on hb1)
        replace H3 := hide ((unhide H3).on (unhide LL).below)
        clear hb1
        go_wp2_with (first | go_skip | ((with_reducible apply kbuildU (n := kn d)); (case ho => rfl); (case hw => rfl); (case hx => rfl); (intro X hc hs hb; simp only [Act.put, nzA, nzB, nzC]; have HC := hide hc; replace LL := hide ((unhide LL).on hb); replace H3 := hide ((unhide H3).on hb); clear hc hs hb)) | ((with_reducible apply append_uf (n := kn d)); (case hgd => rfl); (case ho => rfl); (case hs => rfl); (case hx => rfl); (case hown => exact (unhide H3).o3); (case hB => exact unhide HC); (case hn => exact unhide HN3); (case hbase => exact (unhide H3).below.size); (intro v9 X9 k1 k2 k3; simp only [Act.put, nzA, nzB, nzC]; have H4 := hide ((unhide H3).put3 k1 k2 k3); clear k1 k2 k3)))
        go_roundg (l.length - (j + 1))
        case measure => omega
        case rel => exact ⟨j + 1, by go_num, by omega, Nat.le_refl _, hide (by unfold G3; rw [(unhide HQ).1, (unhide HQ).2.1, (unhide HQ).2.2]; exact unhide H4)⟩
      · by_cases h1 : kd d = 1
        · clear h0
          rw [h1] at HK
          obtain ⟨q1, q2, q3⟩ := step_1 (l.take j) d h1
          rw [← hst] at q1 q2 q3
          have HQ := hide (And.intro q1 (And.intro q2 q3))
          clear q1 q2 q3 hst h1 hkr
          go_wp2_with (first | go_skip | ((with_reducible apply kindex (j := j)); (case ho => rfl); (case hw => rfl); (case hx => rfl); (case hix => rfl); (case hj => exact hlt); simp only [Act.put, nzA, nzB, nzC]) | ((with_reducible apply kread (d := d)); (case ho => rfl); (case hw => rfl); (case hx => rfl); (case hc => exact unhide HR); simp only [Act.put, nzA, nzB, nzC]) | ((with_reducible apply kalloc23); (case ho => rfl); (case hw => rfl); (case hL => exact unhide LL); (intro X LX hbX; simp only [Act.put, nzA, nzB, nzC]; simp only [List.cons_append, List.nil_append] at LX; replace LL := hide LX; clear LX hbX)) | ((with_reducible apply kstore23 (u := d) (l := []) (d := zeroK)); (case ho => rfl); (case hw => rfl); (case hL => exact unhide LL); (case hx => rfl); (case hy => rfl); (case hm => rfl); (case hne => exact fun q hq => by cases hq); (intro X LX hgX hsX; simp only [Act.put, nzA, nzB, nzC]; simp only [List.cons_append, List.nil_append] at LX; replace LL := hide LX; clear LX hgX hsX)) | ((with_reducible apply load23); (case ho => rfl); (case hw => rfl); (case hx => rfl); (case hc => first | exact (unhide LL).get 0 rfl); simp only [Act.put, nzA, nzB, nzC]))
          refine (unhide HK _).mono ?_
          rintro _ w1 ⟨rfl, hb1⟩
          replace LL := hide ((unhide LL).on hb1)
          replace H3 := hide ((unhide H3).on (unhide LL).below)
          clear hb1
          go_wp2_with (first | go_skip | ((with_reducible apply load23); (case ho => rfl); (case hw => rfl); (case hx => rfl); (case hc => first | exact (unhide LL).get 0 rfl); simp only [Act.put, nzA, nzB, nzC]) | ((with_reducible apply kbuild (d := d)); (case ho => rfl); (case hw => rfl); (case hx => rfl); (intro X hc hs hb; simp only [Act.put, nzA, nzB, nzC]; have HC := hide hc; replace LL := hide ((unhide LL).on hb); replace H3 := hide ((unhide H3).on hb); clear hc hs hb)))
          refine (unhide HAn _).mono ?_
          rintro _ w2 ⟨rfl, hb2⟩
          replace LL := hide ((unhide LL).on hb2)
          replace H3 := hide ((unhide H3).on hb2)
          clear hb2
          go_wp2_with (first | go_skip | ((with_reducible apply load23); (case ho => rfl); (case hw => rfl); (case hx => rfl); (case hc => first | exact (unhide LL).get 0 rfl); simp only [Act.put, nzA, nzB, nzC]) | ((with_reducible apply kbuild (d := d)); (case ho => rfl); (case hw => rfl); (case hx => rfl); (intro X hc hs hb; simp only [Act.put, nzA, nzB, nzC]; have HC := hide hc; replace LL := hide ((unhide LL).on hb); replace H3 := hide ((unhide H3).on hb); clear hc hs hb)) | ((with_reducible apply append_kf (m := [d])); (case hgd => rfl); (case ho => rfl); (case hs => rfl); (case hx => rfl); (case hown => exact (unhide H3).o4); (case hu => exact unhide HC); (case hcap => exact (fun c hc => by cases hc)); (case hn => exact unhide HN4); (case hbase => exact (unhide H3).below.size); (intro v9 X9 k1 k2 k3; simp only [Act.put, nzA, nzB, nzC]; have H4 := hide ((unhide H3).put4 k1 k2 k3); clear k1 k2 k3)))
          go_roundg (l.length - (j + 1))
          case measure => omega
          case rel => exact ⟨j + 1, by go_num, by omega, Nat.le_refl _, hide (by unfold G3; rw [(unhide HQ).1, (unhide HQ).2.1, (unhide HQ).2.2]; exact unhide H4)⟩
        · have h2 : kd d = 2 := by omega
          clear h0 h1
          rw [h2] at HK
          obtain ⟨q1, q2, q3⟩ := step_2 (l.take j) d h2
          rw [← hst] at q1 q2 q3
          have HQ := hide (And.intro q1 (And.intro q2 q3))
          clear q1 q2 q3 hst h2 hkr
          go_wp2_with (first | go_skip | ((with_reducible apply kindex (j := j)); (case ho => rfl); (case hw => rfl); (case hx => rfl); (case hix => rfl); (case hj => exact hlt); simp only [Act.put, nzA, nzB, nzC]) | ((with_reducible apply kread (d := d)); (case ho => rfl); (case hw => rfl); (case hx => rfl); (case hc => exact unhide HR); simp only [Act.put, nzA, nzB, nzC]) | ((with_reducible apply kalloc23); (case ho => rfl); (case hw => rfl); (case hL => exact unhide LL); (intro X LX hbX; simp only [Act.put, nzA, nzB, nzC]; simp only [List.cons_append, List.nil_append] at LX; replace LL := hide LX; clear LX hbX)) | ((with_reducible apply kstore23 (u := d) (l := []) (d := zeroK)); (case ho => rfl); (case hw => rfl); (case hL => exact unhide LL); (case hx => rfl); (case hy => rfl); (case hm => rfl); (case hne => exact fun q hq => by cases hq); (intro X LX hgX hsX; simp only [Act.put, nzA, nzB, nzC]; simp only [List.cons_append, List.nil_append] at LX; replace LL := hide LX; clear LX hgX hsX)) | ((with_reducible apply load23); (case ho => rfl); (case hw => rfl); (case hx => rfl); (case hc => first | exact (unhide LL).get 0 rfl); simp only [Act.put, nzA, nzB, nzC]))
          refine (unhide HK _).mono ?_
          rintro _ w1 ⟨rfl, hb1⟩
          replace LL := hide ((unhide LL).on hb1)
          replace H3 := hide ((unhide H3).on (unhide LL).below)
          clear hb1
          go_wp2_with (first | go_skip | ((with_reducible apply load23); (case ho => rfl); (case hw => rfl); (case hx => rfl); (case hc => first | exact (unhide LL).get 0 rfl); simp only [Act.put, nzA, nzB, nzC]) | ((with_reducible apply kbuild (d := d)); (case ho => rfl); (case hw => rfl); (case hx => rfl); (intro X hc hs hb; simp only [Act.put, nzA, nzB, nzC]; have HC := hide hc; replace LL := hide ((unhide LL).on hb); replace H3 := hide ((unhide H3).on hb); clear hc hs hb)) | ((with_reducible apply append_kf (m := [d])); (case hgd => rfl); (case ho => rfl); (case hs => rfl); (case hx => rfl); (case hown => exact (unhide H3).o5); (case hu => exact unhide HC); (case hcap => exact (fun c hc => by cases hc)); (case hn => exact unhide HN5); (case hbase => exact (unhide H3).below.size); (intro v9 X9 k1 k2 k3; simp only [Act.put, nzA, nzB, nzC]; have H4 := hide ((unhide H3).put5 k1 k2 k3); clear k1 k2 k3)))
          go_roundg (l.length - (j + 1))
          case measure => omega
          case rel => exact ⟨j + 1, by go_num, by omega, Nat.le_refl _, hide (by unfold G3; rw [(unhide HQ).1, (unhide HQ).2.1, (unhide HQ).2.2]; exact unhide H4)⟩
    · have hjz : ¬ (j : Int) < l.length := by omega
      have H3 : Hid (R3 w wr u3 u4 u5 (ixs l) (strs l) (syms l)) := hide (by have := unhide H3; unfold G3 at this; rw [List.take_of_length_le (by omega)] at this; exact this)
      have HLd : Hid ((ixs l).length ≤ 1500000 ∧ (strs l).length ≤ 1500000 ∧ (syms l).length ≤ 1500000) := hide ⟨Nat.le_trans (ixs_len l) hlen, Nat.le_trans (strs_len l) hlen, Nat.le_trans (syms_len l) hlen⟩
      have HIx : Hid (∀ u ∈ mg (ixs l), u ≤ 4294967295) := hide (mg_le l)
      obtain ⟨dd, hdd⟩ : ∃ dd, dd = ixs l := ⟨_, rfl⟩
      obtain ⟨ks, hks⟩ : ∃ ks, ks = strs l := ⟨_, rfl⟩
      obtain ⟨ys, hys⟩ : ∃ ys, ys = syms l := ⟨_, rfl⟩
      rw [← hdd, ← hks, ← hys] at H3 HLd
      rw [← hdd] at HIx
      have HD := hide (And.intro hdd (And.intro hks hys))
      clear hdd hks hys
      have HS := hide (sort_own u3 dd w.heap.size wr (unhide H3).o3 (unhide HLd).1)
      go_wp2_with fail
      refine (unhide HS).mono ?_
      rintro _ w1 ⟨rfl, hg1, hi1, hn1⟩
      have HG1 := hide hg1
      have HI1 := hide hi1
      have HN1 := hide hn1
      clear hg1 hi1 hn1
      by_cases hnb : u3.ownBlock = none
      · obtain ⟨rfl, rfl⟩ := unhide HN1 hnb
        have HM4 : Hid (([] : List KK).length + ks.length ≤ 5000000) := hide (by have := (unhide HLd).2.1; simp; omega)
        have HM5 : Hid ((([] : List KK) ++ ks).length + ys.length ≤ 5000000) := hide (by have h1 := (unhide HLd).2.1; have h2 := (unhide HLd).2.2; simp; omega)
        go_wp2_with (first | go_skip | ((with_reducible apply kmake (c := l.length) (base := w.heap.size)); (case ho => rfl); (case hw => rfl); (case hx => rfl); (case hc => omega); (case hb => exact Nat.le_trans (unhide H3).below.size (unhide HG1).size); (intro X9 B9 k1 k2 k3; simp only [Act.put, nzA, nzB, nzC]; have H4 := hide ((unhide H3).sorted (unhide HG1) k1 k2 k3); have HX9 := hide k3; clear k1 k2 k3)))
        go_loopg [10, 52] 0 (fun gm s10 s52 wr2 => s52 = .int .i64 0 ∧ Hid (R4 w wr2 u4 u5 s10 ks ys [] none none))
        case atStart => exact ⟨rfl, H4⟩
        case round =>
          clear H4
          obtain ⟨rfl, H4⟩ := hrel
          go_wp2_with (first | go_skip | ((with_reducible apply append_kf (m := ks)); (case hgd => rfl); (case ho => rfl); (case hs => rfl); (case hx => rfl); (case hown => exact (unhide H4).o10); (case hu => exact (unhide H4).o4.reads); (case hcap => exact own_cap (unhide H4).o4); (case hn => exact unhide HM4); (case hbase => exact (unhide H4).below.size); (intro v9 X8 k1 k2 k3; simp only [Act.put, nzA, nzB, nzC]; replace H4 := hide ((unhide H4).put k1 k2 k3); clear k1 k2 k3)) | ((with_reducible apply append_kf (m := ys)); (case hgd => rfl); (case ho => rfl); (case hs => rfl); (case hx => rfl); (case hown => exact (unhide H4).o10); (case hu => exact (unhide H4).o5.reads); (case hcap => exact own_cap (unhide H4).o5); (case hn => exact unhide HM5); (case hbase => exact (unhide H4).below.size); (intro v9 X8 k1 k2 k3; simp only [Act.put, nzA, nzB, nzC]; replace H4 := hide ((unhide H4).put k1 k2 k3); clear k1 k2 k3)))
          go_ret
          refine ⟨_, rfl, ?_, (unhide H4).below⟩
          rw [← (unhide HD).1, ← (unhide HD).2.1, ← (unhide HD).2.2, mg_nil]
          first | exact (unhide H4).o10 | (have h9 := (unhide H4).o10; rw [List.append_assoc] at h9; exact h9)
      · obtain ⟨gi, hgi⟩ : ∃ g, u3.ownBlock = some g := Option.ne_none_iff_exists'.1 hnb
        obtain ⟨c3, hs3, hl3⟩ := unhide HI1 gi hgi
        have HL3 := hide hl3
        subst hs3
        clear hl3 hnb
        have hdl : (mg dd).length = dd.length := mg_len dd
        have hd3 := (unhide HLd).1
        have HM4 : Hid ((outK (mg dd)).length + ks.length ≤ 5000000) := hide (by have := (unhide HLd).2.1; unfold outK; rw [List.length_map]; omega)
        have HM5 : Hid ((outK (mg dd) ++ ks).length + ys.length ≤ 5000000) := hide (by have h1 := (unhide HLd).2.1; have h2 := (unhide HLd).2.2; unfold outK; rw [List.length_append, List.length_map]; omega)
        go_wp2_with (first | go_skip | ((with_reducible apply kmake (c := l.length) (base := w.heap.size)); (case ho => rfl); (case hw => rfl); (case hx => rfl); (case hc => omega); (case hb => exact Nat.le_trans (unhide H3).below.size (unhide HG1).size); (intro X9 B9 k1 k2 k3; simp only [Act.put, nzA, nzB, nzC]; have H4 := hide ((unhide H3).sorted (unhide HG1) k1 k2 k3); have HX9 := hide k3; clear k1 k2 k3)))
        obtain ⟨ob, hob⟩ : ∃ ob, ob = ((Value.slice (some ⟨gi, 0, none⟩) dd.length c3).ownBlock.bind fun g => w1.heap[g]?) := ⟨_, rfl⟩
        rw [← hob] at H4
        have hob2 : ob = w1.heap[gi]? := hob
        clear hob
        go_loopg [10, 52] dd.length (fun gm s10 s52 wr2 => ∃ j2 : Nat, s52 = .int .i64 j2 ∧ j2 ≤ dd.length ∧ dd.length - j2 ≤ gm ∧ Hid (R4 w wr2 u4 u5 s10 ks ys (outK ((mg dd).take j2)) (some gi) ob))
        case atStart => exact ⟨0, rfl, by omega, by omega, H4⟩
        case round =>
          clear H4
          obtain ⟨j2, rfl, hj2, hg2, H4⟩ := hrel
          by_cases hlt2 : j2 < dd.length
          · have hjz2 : (j2 : Int) < dd.length := by omega
            have hju : j2 < (mg dd).length := by omega
            obtain ⟨un, hun⟩ : ∃ u, u = (mg dd)[j2] := ⟨_, rfl⟩
            have hule : un ≤ 4294967295 := by rw [hun]; exact unhide HIx _ (List.getElem_mem hju)
            have hLw : LiesU wr gi (mg dd).toArray := (unhide HL3).blk ((unhide H4).idx gi rfl).2.1 hob2
            have hcell := (hLw.cell j2 (by simpa using hju)).1
            have hge : (mg dd).toArray[j2]! = un := by rw [hun, getElem!_pos (mg dd).toArray j2 (by simpa using hju)]; simp
            rw [hge] at hcell
            clear hLw hge
            have HNo : Hid ((outK ((mg dd).take j2)).length + [(⟨dStr un, 0⟩ : KK)].length ≤ 5000000) := hide (by unfold outK; rw [List.length_map, List.length_take]; simp; omega)
            have HO : Hid (outK ((mg dd).take (j2 + 1)) = outK ((mg dd).take j2) ++ [⟨dStr un, 0⟩]) := hide (by unfold outK; rw [List.take_succ_eq_append_getElem hju, List.map_append, ← hun]; rfl)
            have HFI := hide (fun w hT => fromIndex32 un hule w hT)
            clear hun hule
            go_wp2_with fail
            refine (unhide HFI _ ((unhide HT).on (unhide H4).below)).mono ?_
            rintro _ w2 ⟨rfl, hb2⟩
            clear hcell
            replace H4 := hide ((unhide H4).on hb2)
            clear hb2
            go_wp2_with (first | go_skip | ((with_reducible apply kbuild (d := ⟨dStr un, 0⟩)); (case ho => rfl); (case hw => rfl); (case hx => rfl); (intro X hc hs hb; simp only [Act.put, nzA, nzB, nzC]; have HC := hide hc; replace H4 := hide ((unhide H4).on hb); clear hc hs hb)) | ((with_reducible apply append_kf (m := [⟨dStr un, 0⟩])); (case hgd => rfl); (case ho => rfl); (case hs => rfl); (case hx => rfl); (case hown => exact (unhide H4).o10); (case hu => exact unhide HC); (case hcap => exact (fun c hc => by cases hc)); (case hn => exact unhide HNo); (case hbase => exact (unhide H4).below.size); (intro v9 X8 k1 k2 k3; simp only [Act.put, nzA, nzB, nzC]; replace H4 := hide ((unhide H4).put k1 k2 k3); clear k1 k2 k3)))
            go_roundg (dd.length - (j2 + 1))
            case measure => omega
            case rel => exact ⟨j2 + 1, by go_num, by omega, Nat.le_refl _, hide (by rw [unhide HO]; exact unhide H4)⟩
          · have hjz2 : ¬ (j2 : Int) < dd.length := by omega
            replace H4 : Hid (R4 w wr u4 u5 u10 ks ys (outK (mg dd)) (some gi) ob) := hide (by have := unhide H4; rw [List.take_of_length_le (by omega)] at this; exact this)
            go_wp2_with (first | go_skip | ((with_reducible apply append_kf (m := ks)); (case hgd => rfl); (case ho => rfl); (case hs => rfl); (case hx => rfl); (case hown => exact (unhide H4).o10); (case hu => exact (unhide H4).o4.reads); (case hcap => exact own_cap (unhide H4).o4); (case hn => exact unhide HM4); (case hbase => exact (unhide H4).below.size); (intro v9 X8 k1 k2 k3; simp only [Act.put, nzA, nzB, nzC]; replace H4 := hide ((unhide H4).put k1 k2 k3); clear k1 k2 k3)) | ((with_reducible apply append_kf (m := ys)); (case hgd => rfl); (case ho => rfl); (case hs => rfl); (case hx => rfl); (case hown => exact (unhide H4).o10); (case hu => exact (unhide H4).o5.reads); (case hcap => exact own_cap (unhide H4).o5); (case hn => exact unhide HM5); (case hbase => exact (unhide H4).below.size); (intro v9 X8 k1 k2 k3; simp only [Act.put, nzA, nzB, nzC]; replace H4 := hide ((unhide H4).put k1 k2 k3); clear k1 k2 k3)))
            go_ret
            refine ⟨_, rfl, ?_, (unhide H4).below⟩
            rw [← (unhide HD).1, ← (unhide HD).2.1, ← (unhide HD).2.2]
            first | exact (unhide H4).o10 | (have h9 := (unhide H4).o10; rw [List.append_assoc] at h9; exact h9)
set_option maxHeartbeats 20000000 in
set_option maxRecDepth 100000 in
theorem ordered_nil (A : Option Addr) (cap : Nat) (w : World) (htab : TabP w) : Calls Tryz.prog 51 #[.slice A 0 cap] w fun e w' => ∃ v, e = .returned v ∧ OwnK w' w.heap.size v (outK (mg (ixs [])) ++ strs [] ++ syms []) ∧ Below w.heap.size w w' := by
  have HT := hide htab
  clear htab
  go_enter Tryz.func51, Tryz.ntmps51
  go_wp2_with fail
  go_loopg [3, 4, 5, 15] 0 (fun gm s3 s4 s5 s15 wr => s15 = .int .i64 0 ∧ Hid (G3 w wr s3 s4 s5 []))
  case atStart => exact ⟨rfl, hide (R3.nil w)⟩
  case round =>
    obtain ⟨rfl, H3⟩ := hrel
    have H3 : Hid (R3 w wr u3 u4 u5 (ixs []) (strs []) (syms [])) := H3
    have HLd : Hid ((ixs []).length ≤ 1500000 ∧ (strs []).length ≤ 1500000 ∧ (syms []).length ≤ 1500000) := hide ⟨Nat.zero_le _, Nat.zero_le _, Nat.zero_le _⟩
    have HIx : Hid (∀ u ∈ mg (ixs []), u ≤ 4294967295) := hide (mg_le [])
    obtain ⟨dd, hdd⟩ : ∃ dd, dd = ixs [] := ⟨_, rfl⟩
    obtain ⟨ks, hks⟩ : ∃ ks, ks = strs [] := ⟨_, rfl⟩
    obtain ⟨ys, hys⟩ : ∃ ys, ys = syms [] := ⟨_, rfl⟩
    rw [← hdd, ← hks, ← hys] at H3 HLd
    rw [← hdd] at HIx
    have HD := hide (And.intro hdd (And.intro hks hys))
    clear hdd hks hys
    have HS := hide (sort_own u3 dd w.heap.size wr (unhide H3).o3 (unhide HLd).1)
    go_wp2_with fail
    refine (unhide HS).mono ?_
    rintro _ w1 ⟨rfl, hg1, hi1, hn1⟩
    have HG1 := hide hg1
    have HI1 := hide hi1
    have HN1 := hide hn1
    clear hg1 hi1 hn1
    by_cases hnb : u3.ownBlock = none
    · obtain ⟨rfl, rfl⟩ := unhide HN1 hnb
      have HM4 : Hid (([] : List KK).length + ks.length ≤ 5000000) := hide (by have := (unhide HLd).2.1; simp; omega)
      have HM5 : Hid ((([] : List KK) ++ ks).length + ys.length ≤ 5000000) := hide (by have h1 := (unhide HLd).2.1; have h2 := (unhide HLd).2.2; simp; omega)
      go_wp2_with (first | go_skip | ((with_reducible apply kmake (c := 0) (base := w.heap.size)); (case ho => rfl); (case hw => rfl); (case hx => rfl); (case hc => omega); (case hb => exact Nat.le_trans (unhide H3).below.size (unhide HG1).size); (intro X9 B9 k1 k2 k3; simp only [Act.put, nzA, nzB, nzC]; have H4 := hide ((unhide H3).sorted (unhide HG1) k1 k2 k3); have HX9 := hide k3; clear k1 k2 k3)))
      go_loopg [10, 52] 0 (fun gm s10 s52 wr2 => s52 = .int .i64 0 ∧ Hid (R4 w wr2 u4 u5 s10 ks ys [] none none))
      case atStart => exact ⟨rfl, H4⟩
      case round =>
        clear H4
        obtain ⟨rfl, H4⟩ := hrel
        go_wp2_with (first | go_skip | ((with_reducible apply append_kf (m := ks)); (case hgd => rfl); (case ho => rfl); (case hs => rfl); (case hx => rfl); (case hown => exact (unhide H4).o10); (case hu => exact (unhide H4).o4.reads); (case hcap => exact own_cap (unhide H4).o4); (case hn => exact unhide HM4); (case hbase => exact (unhide H4).below.size); (intro v9 X8 k1 k2 k3; simp only [Act.put, nzA, nzB, nzC]; replace H4 := hide ((unhide H4).put k1 k2 k3); clear k1 k2 k3)) | ((with_reducible apply append_kf (m := ys)); (case hgd => rfl); (case ho => rfl); (case hs => rfl); (case hx => rfl); (case hown => exact (unhide H4).o10); (case hu => exact (unhide H4).o5.reads); (case hcap => exact own_cap (unhide H4).o5); (case hn => exact unhide HM5); (case hbase => exact (unhide H4).below.size); (intro v9 X8 k1 k2 k3; simp only [Act.put, nzA, nzB, nzC]; replace H4 := hide ((unhide H4).put k1 k2 k3); clear k1 k2 k3)))
        go_ret
        refine ⟨_, rfl, ?_, (unhide H4).below⟩
        rw [← (unhide HD).1, ← (unhide HD).2.1, ← (unhide HD).2.2, mg_nil]
        first | exact (unhide H4).o10 | (have h9 := (unhide H4).o10; rw [List.append_assoc] at h9; exact h9)
    · obtain ⟨gi, hgi⟩ : ∃ g, u3.ownBlock = some g := Option.ne_none_iff_exists'.1 hnb
      obtain ⟨c3, hs3, hl3⟩ := unhide HI1 gi hgi
      have HL3 := hide hl3
      subst hs3
      clear hl3 hnb
      have hdl : (mg dd).length = dd.length := mg_len dd
      have hd3 := (unhide HLd).1
      have HM4 : Hid ((outK (mg dd)).length + ks.length ≤ 5000000) := hide (by have := (unhide HLd).2.1; unfold outK; rw [List.length_map]; omega)
      have HM5 : Hid ((outK (mg dd) ++ ks).length + ys.length ≤ 5000000) := hide (by have h1 := (unhide HLd).2.1; have h2 := (unhide HLd).2.2; unfold outK; rw [List.length_append, List.length_map]; omega)
      go_wp2_with (first | go_skip | ((with_reducible apply kmake (c := 0) (base := w.heap.size)); (case ho => rfl); (case hw => rfl); (case hx => rfl); (case hc => omega); (case hb => exact Nat.le_trans (unhide H3).below.size (unhide HG1).size); (intro X9 B9 k1 k2 k3; simp only [Act.put, nzA, nzB, nzC]; have H4 := hide ((unhide H3).sorted (unhide HG1) k1 k2 k3); have HX9 := hide k3; clear k1 k2 k3)))
      obtain ⟨ob, hob⟩ : ∃ ob, ob = ((Value.slice (some ⟨gi, 0, none⟩) dd.length c3).ownBlock.bind fun g => w1.heap[g]?) := ⟨_, rfl⟩
      rw [← hob] at H4
      have hob2 : ob = w1.heap[gi]? := hob
      clear hob
      go_loopg [10, 52] dd.length (fun gm s10 s52 wr2 => ∃ j2 : Nat, s52 = .int .i64 j2 ∧ j2 ≤ dd.length ∧ dd.length - j2 ≤ gm ∧ Hid (R4 w wr2 u4 u5 s10 ks ys (outK ((mg dd).take j2)) (some gi) ob))
      case atStart => exact ⟨0, rfl, by omega, by omega, H4⟩
      case round =>
        clear H4
        obtain ⟨j2, rfl, hj2, hg2, H4⟩ := hrel
        by_cases hlt2 : j2 < dd.length
        · have hjz2 : (j2 : Int) < dd.length := by omega
          have hju : j2 < (mg dd).length := by omega
          obtain ⟨un, hun⟩ : ∃ u, u = (mg dd)[j2] := ⟨_, rfl⟩
          have hule : un ≤ 4294967295 := by rw [hun]; exact unhide HIx _ (List.getElem_mem hju)
          have hLw : LiesU wr gi (mg dd).toArray := (unhide HL3).blk ((unhide H4).idx gi rfl).2.1 hob2
          have hcell := (hLw.cell j2 (by simpa using hju)).1
          have hge : (mg dd).toArray[j2]! = un := by rw [hun, getElem!_pos (mg dd).toArray j2 (by simpa using hju)]; simp
          rw [hge] at hcell
          clear hLw hge
          have HNo : Hid ((outK ((mg dd).take j2)).length + [(⟨dStr un, 0⟩ : KK)].length ≤ 5000000) := hide (by unfold outK; rw [List.length_map, List.length_take]; simp; omega)
          have HO : Hid (outK ((mg dd).take (j2 + 1)) = outK ((mg dd).take j2) ++ [⟨dStr un, 0⟩]) := hide (by unfold outK; rw [List.take_succ_eq_append_getElem hju, List.map_append, ← hun]; rfl)
          have HFI := hide (fun w hT => fromIndex32 un hule w hT)
          clear hun hule
          go_wp2_with fail
          refine (unhide HFI _ ((unhide HT).on (unhide H4).below)).mono ?_
          rintro _ w2 ⟨rfl, hb2⟩
          clear hcell
          replace H4 := hide ((unhide H4).on hb2)
          clear hb2
          go_wp2_with (first | go_skip | ((with_reducible apply kbuild (d := ⟨dStr un, 0⟩)); (case ho => rfl); (case hw => rfl); (case hx => rfl); (intro X hc hs hb; simp only [Act.put, nzA, nzB, nzC]; have HC := hide hc; replace H4 := hide ((unhide H4).on hb); clear hc hs hb)) | ((with_reducible apply append_kf (m := [⟨dStr un, 0⟩])); (case hgd => rfl); (case ho => rfl); (case hs => rfl); (case hx => rfl); (case hown => exact (unhide H4).o10); (case hu => exact unhide HC); (case hcap => exact (fun c hc => by cases hc)); (case hn => exact unhide HNo); (case hbase => exact (unhide H4).below.size); (intro v9 X8 k1 k2 k3; simp only [Act.put, nzA, nzB, nzC]; replace H4 := hide ((unhide H4).put k1 k2 k3); clear k1 k2 k3)))
          go_roundg (dd.length - (j2 + 1))
          case measure => omega
          case rel => exact ⟨j2 + 1, by go_num, by omega, Nat.le_refl _, hide (by rw [unhide HO]; exact unhide H4)⟩
        · have hjz2 : ¬ (j2 : Int) < dd.length := by omega
          replace H4 : Hid (R4 w wr u4 u5 u10 ks ys (outK (mg dd)) (some gi) ob) := hide (by have := unhide H4; rw [List.take_of_length_le (by omega)] at this; exact this)
          go_wp2_with (first | go_skip | ((with_reducible apply append_kf (m := ks)); (case hgd => rfl); (case ho => rfl); (case hs => rfl); (case hx => rfl); (case hown => exact (unhide H4).o10); (case hu => exact (unhide H4).o4.reads); (case hcap => exact own_cap (unhide H4).o4); (case hn => exact unhide HM4); (case hbase => exact (unhide H4).below.size); (intro v9 X8 k1 k2 k3; simp only [Act.put, nzA, nzB, nzC]; replace H4 := hide ((unhide H4).put k1 k2 k3); clear k1 k2 k3)) | ((with_reducible apply append_kf (m := ys)); (case hgd => rfl); (case ho => rfl); (case hs => rfl); (case hx => rfl); (case hown => exact (unhide H4).o10); (case hu => exact (unhide H4).o5.reads); (case hcap => exact own_cap (unhide H4).o5); (case hn => exact unhide HM5); (case hbase => exact (unhide H4).below.size); (intro v9 X8 k1 k2 k3; simp only [Act.put, nzA, nzB, nzC]; replace H4 := hide ((unhide H4).put k1 k2 k3); clear k1 k2 k3)))
          go_ret
          refine ⟨_, rfl, ?_, (unhide H4).below⟩
          rw [← (unhide HD).1, ← (unhide HD).2.1, ← (unhide HD).2.2]
          first | exact (unhide H4).o10 | (have h9 := (unhide H4).o10; rw [List.append_assoc] at h9; exact h9)
theorem ordered19 (v : Value) (l : List KK) (hz : ∀ k ∈ l, k.s.size ≤ 1048576) (w : World) (htab : TabP w) (hr : ReadsK w v l) (hlen : l.length ≤ 1500000) : Calls Tryz.prog 51 #[v] w fun e w' => ∃ v, e = .returned v ∧ OwnK w' w.heap.size v (outK (mg (ixs l)) ++ strs l ++ syms l) ∧ Below w.heap.size w w' := by
  rcases hr with ⟨A, c, rfl, rfl⟩ | ⟨b, off, cap, rfl, hb, hr⟩
  · exact ordered_nil A c w htab
  · exact ordered_rows b off cap l hz w htab hb hr hlen
