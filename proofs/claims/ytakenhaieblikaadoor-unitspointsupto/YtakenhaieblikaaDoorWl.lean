import Derived.Test.YtakenhaieblikaaDoorWk
import Derived.Laws.OwnMore
import Derived.Deep.Cut
import Derived.LoopTactic
namespace Go.Proofs.YtakenhaieblikaaDoor
open Go.RowKit Go.Shelf

theorem u16_get (l : List Nat) (j : Nat) (u : Value) (h : (l.map u16v)[j]? = some u) : j < l.length ∧ u = .int .u16 (l.getD j 0 : Nat) := by
  rw [List.getElem?_map] at h
  cases hj : l[j]? with
  | none => rw [hj] at h; simp at h
  | some x =>
    obtain ⟨h1, h2⟩ := List.getElem?_eq_some_iff.1 hj
    rw [hj] at h
    refine ⟨h1, ?_⟩
    simp only [Option.map_some, Option.some.injEq] at h
    rw [← h, List.getD_eq_getElem?_getD, hj]; rfl
theorem add_plain (b off j : Nat) : (⟨b, off, none⟩ : Addr).add j = ⟨b, off + j, none⟩ := by unfold Addr.add; split <;> simp_all

set_option maxHeartbeats 2000000 in
set_option maxRecDepth 100000 in
theorem law_rows (vl : Value) (l : List Nat) (s : ByteArray) (h16 : ∀ x ∈ l, x < 65536) (hlen : l.length ≤ 1048576) (hsz : s.size ≤ 1048576) (w : World) (hR : Reads w vl l) (hT : Lib.Utf8Tabs 0 1 w) :
    Calls Tryd.prog 4 #[vl, .string s] w fun e w' => e = .returned (.bool true) ∧ Below w.heap.size w w' := by
  obtain ⟨i0, hi, hz0, hz1, hz2⟩ := info_parts info38
  have hul := rdL_len s
  go_enter Tryd.func4, Tryd.ntmps4
  go_upto_region 1 with fail
  go_cut [5] from 14 (fun c wc => ∃ g cap2, c = .slice (some ⟨g, 0, none⟩) (l.length + 1) cap2 ∧ wc.ownsRow w.heap.size 38 1 (.slice (some ⟨g, 0, none⟩) (l.length + 1) cap2) (l.length + 1) (l.map u16v ++ [.int .u16 7]) ∧ Below w.heap.size w wc)
  case first =>
    rcases hR with ⟨A, c, rfl, rfl⟩ | ⟨b, off, cap, rfl, hblt, hcl⟩
    · cases A with
      | none =>
        have h0 : (w.alloc (.cells #[] 38)).ownsRow w.heap.size 38 1 (.slice (some ⟨w.heap.size, 0, none⟩) 0 0) 0 [] := World.ownsRow_lit w #[] 0 (Nat.le_refl _) (by unfold maxLen; omega) rfl
        have hnew := news_cells (w.alloc (.cells #[] 38)) #[.int .u16 7] 38
        rw [World.size_alloc] at hnew
        have HNEW := hide hnew; clear hnew
        go_wp2_with (at_builtin; refine wpList_append_own _ rfl _ _ 37 rfl w.heap.size 38 i0 (.int .u16 0) 1 2 Tryd.underlying37 hi hz0 hz1 hz2 rfl (by decide) _ _ _ rfl (h0.alloc _) ⟨w.heap.size + 1, 0, none⟩ 1 1 [.int .u16 7] rfl rfl (unhide HNEW) (by simp [Value.oneCell']) (by unfold maxLen; omega) (by omega) (by simp; omega) ?_; intro v2 w2 hown2 hgrow2 _)
        go_meet
        case rel =>
          obtain ⟨g, cap', rfl⟩ := ownsRow_succ hown2
          exact ⟨g, cap', rfl, hown2, ((Below.refl w.heap.size w).alloc (Nat.le_refl _) _).trans (below_app h0 (by simp) hgrow2)⟩
      | some x =>
        have h0 : (w.alloc (.cells #[] 38)).ownsRow w.heap.size 38 1 (.slice (some ⟨w.heap.size, 0, none⟩) 0 0) 0 [] := World.ownsRow_lit w #[] 0 (Nat.le_refl _) (by unfold maxLen; omega) rfl
        go_wp2_with (at_builtin; first
          | (refine wpList_append_own _ rfl _ _ 37 rfl w.heap.size 38 i0 (.int .u16 0) 1 2 Tryd.underlying37 hi hz0 hz1 hz2 rfl (by decide) _ _ _ rfl h0 x 0 c [] rfl (by simp) (fun j u hj => by simp at hj) (by simp) (by unfold maxLen; omega) (by omega) (by simp) ?_; clear h0; intro v1 w1 hown1 hgrow1 _)
          | (refine wpList_append_own _ rfl _ _ 37 rfl w.heap.size 38 i0 (.int .u16 0) 1 2 Tryd.underlying37 hi hz0 hz1 hz2 rfl (by decide) _ _ _ rfl (hown1.alloc _) ⟨w1.heap.size, 0, none⟩ 1 1 [.int .u16 7] rfl rfl (news_cells _ #[.int .u16 7] 38) (by simp [Value.oneCell']) (by unfold maxLen; omega) (by omega) (by have := hgrow1.size; simp at this ⊢; omega) ?_; intro v2 w2 hown2 hgrow2 _))
        go_meet
        case rel =>
          simp only [Nat.zero_add, List.nil_append] at hown2
          obtain ⟨g, cap', rfl⟩ := ownsRow_succ hown2
          have hB1 : Below w.heap.size w w1 := ((Below.refl w.heap.size w).alloc (Nat.le_refl _) _).grown hgrow1 (by simp) fun j ej => Nat.le_of_eq (Option.some.inj ej)
          exact ⟨g, cap', rfl, hown2, hB1.trans (below_app hown1 hB1.size hgrow2)⟩
    · have HCL := hide hcl; clear hcl
      have h0 : (w.alloc (.cells #[] 38)).ownsRow w.heap.size 38 1 (.slice (some ⟨w.heap.size, 0, none⟩) 0 0) 0 [] := World.ownsRow_lit w #[] 0 (Nat.le_refl _) (by unfold maxLen; omega) rfl
      go_wp2_with (at_builtin; first
        | (refine wpList_append_own _ rfl _ _ 37 rfl w.heap.size 38 i0 (.int .u16 0) 1 2 Tryd.underlying37 hi hz0 hz1 hz2 rfl (by decide) _ _ _ rfl h0 ⟨b, off, none⟩ l.length cap (l.map u16v) rfl (by simp) (fun j u hj => by
              obtain ⟨h1, rfl⟩ := u16_get l j u hj
              rw [add_plain]
              exact (((Below.refl w.heap.size w).alloc (Nat.le_refl _) _).cell (p := ⟨b, off + j, none⟩) hblt).trans (unhide HCL j h1)) (by simp [u16v, Value.oneCell']) (by unfold maxLen; omega) (by omega) (by simp) ?_; clear h0; intro v1 w1 hown1 hgrow1 _)
        | (refine wpList_append_own _ rfl _ _ 37 rfl w.heap.size 38 i0 (.int .u16 0) 1 2 Tryd.underlying37 hi hz0 hz1 hz2 rfl (by decide) _ _ _ rfl (hown1.alloc _) ⟨w1.heap.size, 0, none⟩ 1 1 [.int .u16 7] rfl rfl (news_cells _ #[.int .u16 7] 38) (by simp [Value.oneCell']) (by unfold maxLen; omega) (by omega) (by have := hgrow1.size; simp at this ⊢; omega) ?_; intro v2 w2 hown2 hgrow2 _))
      go_meet
      case rel =>
        simp only [Nat.zero_add, List.nil_append] at hown2
        obtain ⟨g, cap', rfl⟩ := ownsRow_succ hown2
        have hB1 : Below w.heap.size w w1 := ((Below.refl w.heap.size w).alloc (Nat.le_refl _) _).grown hgrow1 (by simp) fun j ej => Nat.le_of_eq (Option.some.inj ej)
        exact ⟨g, cap', rfl, hown2, hB1.trans (below_app hown1 hB1.size hgrow2)⟩
  case rest =>
    obtain ⟨g, cap2, rfl, hownc, hBc⟩ := hcut
    obtain ⟨A, cap, rfl, hA⟩ := reads_open hR
    clear hA
    have hszc := hBc.size
    have hRc : Reads wc (.slice (some ⟨g, 0, none⟩) l.length cap2) l := by
      refine .inr ⟨g, 0, cap2, rfl, (hownc.lt g rfl).2, fun i hi => ?_⟩
      rw [Nat.zero_add, hownc.cellAt i (by omega), List.getElem?_append_left (by simpa using hi), List.getElem?_map, List.getElem?_eq_getElem hi, List.getD_eq_getElem?_getD, List.getElem?_eq_getElem hi]
      rfl
    have hc7 : wc.cell? ⟨g, l.length, none⟩ = some (.int .u16 7) := by
      rw [hownc.cellAt l.length (by omega), List.getElem?_append_right (by simp)]; simp
    have hcap : l.length + 1 ≤ cap2 := by
      rcases hownc.2 with ⟨h, _⟩ | ⟨g', c', cur, h, _, _, h2, _⟩
      · simp at h
      · simp at h; omega
    have hk1 : (l.length : Int) ≤ (cap2 : Int) := by omega
    have H16 := hide h16; have HT := hide hT; have HR := hide hR; clear h16 hT hR
    go_wp2_with fail
    refine (of_any _ l (unhide H16) (by omega) wc hRc).mono ?_
    rintro e w2 ⟨t, rfl, ht, hb2⟩
    have HTT := hide ht; clear ht
    go_wp2_with fail
    refine (units_any s (by omega) w2 (tabs_belowB (unhide HT) (tabs_size (unhide HT)) (hBc.trans (hb2.mono hBc.size)))).mono ?_
    rintro e w3 ⟨va, rfl, howna, hb3⟩
    have hB2 := hBc.trans (hb2.mono hBc.size)
    have hB3 := hB2.trans (hb3.mono hB2.size)
    go_wp2_with fail
    refine (units_any s (by omega) w3 (tabs_belowB (unhide HT) (tabs_size (unhide HT)) hB3)).mono ?_
    rintro e w4 ⟨vb, rfl, hownb, hb4⟩
    have hB4 := hB3.trans (hb4.mono hB3.size)
    go_wp2_with fail
    refine (refUnits_any s (by omega) w4).mono ?_
    rintro e w5 ⟨vw, rfl, hownw, hb5⟩
    have hB5 := hB4.trans (hb5.mono hB4.size)
    go_wp2_with fail
    refine (refOf_any _ l (unhide H16) (by omega) w5 ((unhide HR).same hB5)).mono ?_
    rintro e w6 ⟨t2, rfl, ht2, hb6⟩
    have hB6 := hB5.trans (hb6.mono hB5.size)
    have htt : t2 = t := nums_inj (ht2.trans (unhide HTT).symm)
    subst htt
    clear ht2
    have hRa : Reads w6 va (unS s) := ((reads_own howna).same (hb4.trans ((hb5.mono hb4.size).trans (hb6.mono (Nat.le_trans hb4.size hb5.size)))))
    have hRb : Reads w6 vb (unS s) := (reads_own hownb).same (hb5.trans (hb6.mono hb5.size))
    have hRw : Reads w6 vw (unS s) := (reads_own hownw).same hb6
    have hRc6 := hRc.same (hb2.trans ((hb3.mono hb2.size).trans ((hb4.mono (Nat.le_trans hb2.size hb3.size)).trans ((hb5.mono (Nat.le_trans hb2.size (Nat.le_trans hb3.size hb4.size))).trans (hb6.mono (Nat.le_trans hb2.size (Nat.le_trans hb3.size (Nat.le_trans hb4.size hb5.size))))))))
    have hc76 : w6.cell? ⟨g, l.length, none⟩ = some (.int .u16 7) := by
      have hB : Below wc.heap.size wc w6 := hb2.trans ((hb3.mono hb2.size).trans ((hb4.mono (Nat.le_trans hb2.size hb3.size)).trans ((hb5.mono (Nat.le_trans hb2.size (Nat.le_trans hb3.size hb4.size))).trans (hb6.mono (Nat.le_trans hb2.size (Nat.le_trans hb3.size (Nat.le_trans hb4.size hb5.size)))))))
      exact (hB.cell (p := ⟨g, l.length, none⟩) (hownc.lt g rfl).2).trans hc7
    have hunl : (unS s).length ≤ 1048576 := by
      unfold unS; split
      · omega
      · simp
    have HRA := hide hRa; have HRB := hide hRb; have HRW := hide hRw; have HRC6 := hide hRc6; clear hRa hRb hRw hRc6
    have hR6 := (unhide HR).same hB6
    have HR6 := hide hR6; clear hR6
    go_wp2_with fail
    refine (same_any va vw (unS s) (by omega) w6 (unhide HRA) (unhide HRW)).mono ?_
    rintro e w7 ⟨rfl, n7, rfl⟩
    go_wp2_with fail
    refine (same_any vb vw (unS s) (by omega) _ ((unhide HRB).same (below_drewN' _ _ _)) ((unhide HRW).same (below_drewN' _ _ _))).mono ?_
    rintro e w8 ⟨rfl, n8, rfl⟩
    go_wp2_with fail
    refine (same_any _ _ l (by omega) _ ((unhide HRC6).same (below_drewN' _ _ _)) ((unhide HR6).same (below_drewN' _ _ _))).mono ?_
    rintro e w9 ⟨rfl, n9, rfl⟩
    have hoa6 := owns_below howna (hb4.trans ((hb5.mono hb4.size).trans (hb6.mono (Nat.le_trans hb4.size hb5.size))))
    have hob6 := owns_below hownb (hb5.trans (hb6.mono hb5.size))
    have how6 := owns_below hownw hb6
    have hs34 := hb4.size; have hs45 := hb5.size; have hs56 := hb6.size; have hs23 := hb3.size
    obtain ⟨Aa, ca, hva, hAa⟩ : ∃ A c, va = .slice A (unS s).length c ∧ (0 < (unS s).length → ∃ ga, A = some ⟨ga, 0, none⟩ ∧ w2.heap.size ≤ ga ∧ ga < w3.heap.size) := by
      rcases howna.2 with ⟨h1, h2⟩ | ⟨ga, c, cur, h1, h2, h3, _⟩
      · exact ⟨none, 0, by rw [h2, h1], fun h => by omega⟩
      · exact ⟨_, _, h1, fun _ => ⟨ga, rfl, h2, (Array.getElem?_eq_some_iff.1 h3).1⟩⟩
    have hnb : ∀ k, vb.ownBlock = some k → w3.heap.size ≤ k := fun k hk => (hownb.lt k hk).1
    have hna : ∀ k, va.ownBlock = some k → w2.heap.size ≤ k ∧ k < w3.heap.size := fun k hk => howna.lt k hk
    have hnw : ∀ k, vw.ownBlock = some k → w4.heap.size ≤ k := fun k hk => (hownw.lt k hk).1
    clear howna hownb hownw hRc hc7 hownc
    subst hva
    have HAa := hide hAa; clear hAa
    have HNB := hide hnb; have HNW := hide hnw; have HNA := hide hna; clear hnb hnw hna
    have hu16 : (unS s).map u16v = ((unS s).map fun x : Nat => (x : Int)).map (Value.int .u16) := by rw [List.map_map]; rfl
    have hul2 : ((unS s).map fun x : Nat => (x : Int)).length = (unS s).length := by simp
    have HU := hide hu16; have HUL := hide hul2; clear hu16 hul2
    go_wp2
    go_loopw [13] (fun i wr => ∃ (k : Nat) (zs : List Int), i = .int .i64 (k : Nat) ∧ k ≤ (unS s).length ∧ zs.length = (unS s).length ∧ wr.ownsRow w2.heap.size 38 1 (.slice Aa (unS s).length ca) (unS s).length (zs.map (Value.int .u16)) ∧ wr.ownsRow w3.heap.size 38 1 vb (unS s).length ((unS s).map u16v) ∧ wr.ownsRow w4.heap.size 38 1 vw (unS s).length ((unS s).map u16v) ∧ Below w.heap.size w wr ∧ w6.heap.size ≤ wr.heap.size) (fun i _ => (unS s).length - (intOf i).toNat)
    case atStart =>
      exact ⟨0, _, rfl, by omega, unhide HUL, by rw [← unhide HU]; exact hoa6, hob6, how6, hB6.trans (below_drewN' _ _ _), Nat.le_refl _⟩
    case round =>
      obtain ⟨k, zs, rfl, hk, hzl, hoa, hob, how, hB, hsw⟩ := hrel
      have HZL := hide hzl; clear hzl
      by_cases hlt : k < (unS s).length
      · have hlt' : (k : Int) < ((unS s).length : Int) := by omega
        obtain ⟨ga, rfl, hg1, hg2⟩ := unhide HAa (by omega)
        have hkz : k < zs.length := by rw [unhide HZL]; exact hlt
        have hcell : wr.cell? ⟨ga, k, none⟩ = some (.int .u16 zs[k]) := by
          rw [hoa.cellAt k (by omega), List.getElem?_map, List.getElem?_eq_getElem hkz]; rfl
        have hfr := hoa.frozenAt k
        obtain ⟨hst, hgr⟩ := hoa.stored k (.int .u16 (IntKind.u16.wrap (zs[k] + 1)))
        have hkb := hob.kept hgr (by
          cases hv : vb.ownBlock with
          | none => exact .inl rfl
          | some j => exact .inr (by have := unhide HNB j hv; simp; omega))
        have hkw := how.kept hgr (by
          cases hv : vw.ownBlock with
          | none => exact .inl rfl
          | some j => exact .inr (by have := unhide HNW j hv; simp; omega))
        have hBs := hB.setCell (p := ⟨ga, k, none⟩) (by have := hB2.size; show w.heap.size ≤ ga; omega) (.int .u16 (IntKind.u16.wrap (zs[k] + 1)))
        have hsz' := hgr.size
        have HST := hide hst; have HKB := hide hkb; have HKW := hide hkw; have HBS := hide hBs; clear hst hkb hkw hBs hgr
        go_wp2
        refine ⟨⟨k + 1, zs.set k (IntKind.u16.wrap (zs[k] + 1)), by go_num, by omega, by rw [List.length_set]; exact unhide HZL, by rw [List.map_set]; exact unhide HST, unhide HKB, unhide HKW, unhide HBS, by omega⟩, by simp [intOf]; omega⟩
      · have hlt' : ¬ (k : Int) < ((unS s).length : Int) := by omega
        obtain ⟨Cb, cb, hvb⟩ : ∃ A c, vb = .slice A (unS s).length c := by
          rcases hob.2 with ⟨h1, h2⟩ | ⟨_, c, _, h1, _⟩
          · exact ⟨none, 0, by rw [h2, h1]⟩
          · exact ⟨_, _, h1⟩
        obtain ⟨Cw, cw, hvw⟩ : ∃ A c, vw = .slice A (unS s).length c := by
          rcases how.2 with ⟨h1, h2⟩ | ⟨_, c, _, h1, _⟩
          · exact ⟨none, 0, by rw [h2, h1]⟩
          · exact ⟨_, _, h1⟩
        subst hvb hvw
        go_wp2_with (first
          | (at_builtin; refine wpList_append_own _ rfl _ _ 37 rfl w2.heap.size 38 i0 (.int .u16 0) 1 2 Tryd.underlying37 hi hz0 hz1 hz2 rfl (by decide) _ _ _ rfl (hoa.alloc _) ⟨wr.heap.size, 0, none⟩ 1 1 [.int .u16 9] rfl rfl (news_cells _ #[.int .u16 9] 38) (by simp [Value.oneCell']) (by unfold maxLen; omega) (by omega) (by simp; omega) ?_; intro v2 wz hownz hgrowz _; obtain ⟨gz, capz, rfl⟩ := ownsRow_succ hownz)
          | fail)
        have hkb : wz.ownsRow w3.heap.size 38 1 (.slice Cb (unS s).length cb) (unS s).length ((unS s).map u16v) := (hob.alloc _).kept hgrowz (by
          cases hv : (Value.slice Cb (unS s).length cb).ownBlock with
          | none => exact .inl rfl
          | some j => exact .inr (fun e => by have := unhide HNB j hv; have := unhide HNA j e.symm; omega))
        have hkw : wz.ownsRow w4.heap.size 38 1 (.slice Cw (unS s).length cw) (unS s).length ((unS s).map u16v) := (how.alloc _).kept hgrowz (by
          cases hv : (Value.slice Cw (unS s).length cw).ownBlock with
          | none => exact .inl rfl
          | some j => exact .inr (fun e => by have := unhide HNW j hv; have := unhide HNA j e.symm; omega))
        have hBz : Below w.heap.size w wz := hB.trans ((below_app hoa (by omega) hgrowz).mono hB2.size)
        refine (same_any _ _ (unS s) (by omega) wz (reads_own hkb) (reads_own hkw)).mono ?_
        rintro e wy ⟨rfl, ny, rfl⟩
        go_wp2
        go_ret
        refine ⟨?_, hBz.trans (below_drewN' _ _ _)⟩
        simp
end Go.Proofs.YtakenhaieblikaaDoor
