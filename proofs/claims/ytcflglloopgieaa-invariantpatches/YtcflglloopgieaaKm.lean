import Derived.Test.YtcflglloopgieaaKl
namespace Go.Proofs.Ytcflglloopgieaa
open Go Go.Proofs Go.Maps Go.RowKit FM
set_option linter.unusedSimpArgs false
set_option linter.unusedVariables false
set_option maxHeartbeats 1000000
set_option maxHeartbeats 4000000 in
set_option maxRecDepth 100000 in
theorem putX_any (q : KK) (z : DD) (d : DR) (B k : Nat) (w X : World) (hf : Fr w X []) (hd : DI w X B k d) (hk : 400 ≤ k) (hkb : k ≤ 500000) (hq : OkK q ∧ OkP ⟨q, z⟩ ∧ SP ⟨q, z⟩) : Calls Try.prog 24 #[.pointer (some ⟨B, 0, none⟩), q.agg, z.agg] X (PuPost w X B k d { d.abs with ps := putP q z d.abs.ps }) := by
  have HF := hide hf
  have HD := hide hd
  have HK := hide hk
  have HKB := hide hkb
  have HQ := hide hq
  have LL := hide hd.sy
  clear hf hd hk hq hkb
  rw [kagg, dagg]
  go_enter Try.func24, Try.ntmps24
  go_wp2_with (first | go_skip | ((with_reducible show wpList _ _ _ _ _ _); first | ((refine bxS 30 (q.cs) (by rfl) rfl rfl rfl (Nat.succ_pos _) (unhide LL) ?_); intro X4 B4 hE4 L4 hb4; replace LL := hide L4; clear L4 hb4 hE4; simp only [Act.put, List.setIfInBounds_toArray, List.set_cons_succ, List.set_cons_zero]) | ((refine bxS 33 (z.cs) (by rfl) rfl rfl rfl (Nat.succ_pos _) (unhide LL) ?_); intro X5 B5 hE5 L5 hb5; replace LL := hide L5; clear L5 hb5 hE5; simp only [Act.put, List.setIfInBounds_toArray, List.set_cons_succ, List.set_cons_zero])))
  have hix := index_any d B k w _ ((unhide HF).trans (unhide LL).fr (fun b hb => .inr ((unhide HD).base b hb))) ((unhide LL).get 0 rfl) (unhide HK)
  refine hix.mono ?_
  clear hix
  rintro e Y1 ⟨x, rfl, hDP, hlv⟩
  have hS := index_then (unhide LL) hDP
  have hxr := hDP.di.rows x rfl
  obtain ⟨v, rs, mb, nn, sz, F⟩ := x
  dsimp only at hxr hlv hS
  have HRI := hide hxr.ri
  have HGR := hide hxr.gr
  have HLN := hide hxr.len
  have HNN := hide hxr.nn
  have HLV := hide hlv
  have HDI := hide (And.intro hDP.di.rd hDP.di.gd)
  replace LL := hide hS
  clear hDP hlv hS hxr
  generalize hm : (F q).getD 0 = m at *
  have hnz : nz (F q) = (m : Int) := by rw [nz_getD, hm]
  cases m with
  | zero =>
    have hcal := hide hnz
    have HPN := hide ((unhide HRI).put_new (d := z) hm)
    clear hnz
    go_wp2_with fail
    have hnz := unhide hcal
    have ht0 : Sy X _ (d.bs B) [boxO B (d.s.cs d.A d.cap ++ [v, .map (some mb)]), rowO w.heap.size 74 22 v rs.length (flatR rs), mapO mb nn sz F, boxO B4 q.cs, boxO B5 z.cs] := (unhide LL).drew
    refine wp_region_held_drew (P := Try.prog) (S := fun Z => Sy X Z (d.bs B) [boxO B (d.s.cs d.A d.cap ++ [v, .map (some mb)]), rowO w.heap.size 74 22 v rs.length (flatR rs), mapO mb nn sz F, boxO B4 q.cs, boxO B5 z.cs]) (by kernel_rfl) ht0 (fun hS0 => ?_)
    refine gsem 0 (some 9) (.pointer (some ⟨B, 0, none⟩)) rfl (by kernel_rfl) (by kernel_rfl) (by kernel_rfl) (fun _ _ _ h => h) (by kernel_rfl) (by kernel_rfl) (fun _ _ => by kernel_rfl) ht0 ?_
    simp only [Act.put, List.setIfInBounds_toArray, List.set_cons_succ, List.set_cons_zero]
    refine gsem 1 (some 10) (.pointer (some ⟨B, 0, none⟩)) rfl (by kernel_rfl) (by kernel_rfl) (by kernel_rfl) (fun _ _ _ h => h) (by kernel_rfl) (by kernel_rfl) (fun _ _ => by kernel_rfl) ht0 ?_
    simp only [Act.put, List.setIfInBounds_toArray, List.set_cons_succ, List.set_cons_zero]
    refine gsem 2 (some 11) (.pointer (some ⟨B, 9, none⟩)) rfl (by kernel_rfl) (by kernel_rfl) (by kernel_rfl) (fun _ _ _ h => h) (by kernel_rfl) (by kernel_rfl) (fun _ _ => by kernel_rfl) ht0 ?_
    simp only [Act.put, List.setIfInBounds_toArray, List.set_cons_succ, List.set_cons_zero]
    refine gsem 3 (some 12) (.map (some mb)) rfl (by kernel_rfl) (by kernel_rfl) (by kernel_rfl) (fun _ _ _ h => h) (by kernel_rfl) (by kernel_rfl) (fun X hX => ex_load1 62 Try.isAgg62 rfl rfl (hX.hold 0 rfl) rfl) ht0 ?_
    simp only [Act.put, List.setIfInBounds_toArray, List.set_cons_succ, List.set_cons_zero]
    refine gsem 4 (some 13) (.agg q.cs.toArray) rfl (by kernel_rfl) (by kernel_rfl) (by kernel_rfl) (fun _ _ _ h => h) (by kernel_rfl) (by kernel_rfl) (fun X hX => ex_loadN (vs := q.cs) 30 2 rwK szK rfl rfl (hX.hold (b := B4) (cs := q.cs) 3 rfl) rfl rfl) ht0 ?_
    simp only [Act.put, List.setIfInBounds_toArray, List.set_cons_succ, List.set_cons_zero]
    refine gsem 5 (some 14) (.int .i64 0) rfl (by kernel_rfl) (by kernel_rfl) (by kernel_rfl) (fun _ _ _ h => h) (by kernel_rfl) (by kernel_rfl) (fun X hX => ex_lookV rfl rfl rfl (hX.get 2 rfl) (unhide HQ).1 hnz) ht0 ?_
    simp only [Act.put, List.setIfInBounds_toArray, List.set_cons_succ, List.set_cons_zero]
    refine gsem 6 (some 6) (.int .i64 0) rfl (by kernel_rfl) (by kernel_rfl) (by kernel_rfl) (fun _ _ _ h => h) (by kernel_rfl) (by kernel_rfl) (fun _ _ => by kernel_rfl) ht0 ?_
    simp only [Act.put, List.setIfInBounds_toArray, List.set_cons_succ, List.set_cons_zero]
    refine wpAnyH_done (by kernel_rfl) ?_ _
    try simp only [Act.put, List.setIfInBounds_toArray, List.set_cons_succ, List.set_cons_zero]
    replace LL := hide ht0
    clear ht0 hS0 hnz hcal
    obtain ⟨A0, c0, hv0⟩ := own_form ((unhide LL).get 1 rfl)
    subst hv0
    go_wp2_with (first | go_skip | ((with_reducible show wpList _ _ _ _ _ _); first | ((refine rd (by rfl) (ex_neI rfl rfl rfl (by rfl)) ?_); simp only [Act.put, List.setIfInBounds_toArray, List.set_cons_succ, List.set_cons_zero])))
    have ht0 : Sy X _ (d.bs B) [boxO B (d.s.cs d.A d.cap ++ [.slice A0 rs.length c0, .map (some mb)]), rowO w.heap.size 74 22 (.slice A0 rs.length c0) rs.length (flatR rs), mapO mb nn sz F, boxO B4 q.cs, boxO B5 z.cs] := (unhide LL).drew
    have hh0 := And.intro (ht0.hold 3 rfl) (ht0.hold 4 rfl)
    refine wp_region_held_drew (P := Try.prog) (S := fun Z => Holds Z B4 q.cs ∧ Holds Z B5 z.cs) (by kernel_rfl) hh0 (fun hS0 => ?_)
    refine gsem 0 (some 27) (.pointer (some ⟨B, 0, none⟩)) rfl (by kernel_rfl) (by kernel_rfl) (by kernel_rfl) (fun _ _ _ h => h) (by kernel_rfl) (by kernel_rfl) (fun _ _ => by kernel_rfl) hh0 ?_
    simp only [Act.put, List.setIfInBounds_toArray, List.set_cons_succ, List.set_cons_zero]
    refine gsem 1 (some 28) (.pointer (some ⟨B, 0, none⟩)) rfl (by kernel_rfl) (by kernel_rfl) (by kernel_rfl) (fun _ _ _ h => h) (by kernel_rfl) (by kernel_rfl) (fun _ _ => by kernel_rfl) hh0 ?_
    simp only [Act.put, List.setIfInBounds_toArray, List.set_cons_succ, List.set_cons_zero]
    refine gsem 2 (some 29) (.pointer (some ⟨B, 0, none⟩)) rfl (by kernel_rfl) (by kernel_rfl) (by kernel_rfl) (fun _ _ _ h => h) (by kernel_rfl) (by kernel_rfl) (fun _ _ => by kernel_rfl) hh0 ?_
    simp only [Act.put, List.setIfInBounds_toArray, List.set_cons_succ, List.set_cons_zero]
    refine gsem 3 (some 30) (.pointer (some ⟨B, 8, none⟩)) rfl (by kernel_rfl) (by kernel_rfl) (by kernel_rfl) (fun _ _ _ h => h) (by kernel_rfl) (by kernel_rfl) (fun _ _ => by kernel_rfl) hh0 ?_
    simp only [Act.put, List.setIfInBounds_toArray, List.set_cons_succ, List.set_cons_zero]
    refine gsem 5 (some 32) (.agg q.cs.toArray) rfl (by kernel_rfl) (by kernel_rfl) (by kernel_rfl) (fun _ _ _ h => h) (by kernel_rfl) (by kernel_rfl) (fun X hX => ex_loadN (vs := q.cs) 30 2 rwK szK rfl rfl (hX.1) rfl rfl) hh0 ?_
    simp only [Act.put, List.setIfInBounds_toArray, List.set_cons_succ, List.set_cons_zero]
    refine gsem 6 (some 33) (.agg z.cs.toArray) rfl (by kernel_rfl) (by kernel_rfl) (by kernel_rfl) (fun _ _ _ h => h) (by kernel_rfl) (by kernel_rfl) (fun X hX => ex_loadN (vs := z.cs) 33 18 rwD szD rfl rfl (hX.2) rfl rfl) hh0 ?_
    simp only [Act.put, List.setIfInBounds_toArray, List.set_cons_succ, List.set_cons_zero]
    refine gsem 7 (some 34) (.agg (PR.cs ⟨q, z⟩).toArray) rfl (by kernel_rfl) (by kernel_rfl) (by kernel_rfl) (fun _ _ _ h => h) (by kernel_rfl) (by kernel_rfl) (fun X hX => ex_bPr q z rfl rfl rfl) hh0 ?_
    simp only [Act.put, List.setIfInBounds_toArray, List.set_cons_succ, List.set_cons_zero]
    refine gsem 8 (some 35) (.agg (RW.cs ⟨⟨q, z⟩, 0, false⟩).toArray) rfl (by kernel_rfl) (by kernel_rfl) (by kernel_rfl) (fun _ _ _ h => h) (by kernel_rfl) (by kernel_rfl) (fun X hX => ex_bRw0 ⟨q, z⟩ rfl rfl) hh0 ?_
    simp only [Act.put, List.setIfInBounds_toArray, List.set_cons_succ, List.set_cons_zero]
    have ht8 := ht0.box (RW.cs ⟨⟨q, z⟩, 0, false⟩) 74 (Nat.succ_pos _)
    refine wpAnyH_ready (rs := [4, 9]) (by kernel_rfl) (by simp) (gval 4 (some 31) rfl (by kernel_rfl) (by kernel_rfl) (ex_load1 61 Try.isAgg61 rfl rfl (ht0.hold 0 rfl) rfl) (And.intro (ht0.hold 3 rfl) (ht0.hold 4 rfl)) ?_ (gval 9 (some 36) rfl (by kernel_rfl) (by kernel_rfl) (ex_buildS (cs := (RW.cs ⟨⟨q, z⟩, 0, false⟩)) rfl rfl Try.underlying61 infW (by decide) rfl rfl (by decide)) (And.intro (ht8.hold 3 rfl) (ht8.hold 4 rfl)) ?_ AllReadyH.nil))
    · simp only [Act.put, List.setIfInBounds_toArray, List.set_cons_succ, List.set_cons_zero]
      refine wpAnyH_ready (rs := [9]) (by kernel_rfl) (by simp) (gval 9 (some 36) rfl (by kernel_rfl) (by kernel_rfl) (ex_buildS (cs := (RW.cs ⟨⟨q, z⟩, 0, false⟩)) rfl rfl Try.underlying61 infW (by decide) rfl rfl (by decide)) (And.intro (ht8.hold 3 rfl) (ht8.hold 4 rfl)) ?_ AllReadyH.nil)
      simp only [Act.put, List.setIfInBounds_toArray, List.set_cons_succ, List.set_cons_zero]
      have ht9 := ht8
      clear ht8 ht0 hh0
      refine wpAnyH_ready (rs := [10]) (by kernel_rfl) (by simp) (gappF (base := w.heap.size) (size := 22) (bytes := 208) (k := rs.length) (m := 1) (news := (RW.cs ⟨⟨q, z⟩, 0, false⟩)) (xs := flatR rs) (v := .slice A0 rs.length c0) 10 (some 37) rfl (by kernel_rfl) (by kernel_rfl) rfl rfl rfl Try.underlying61 infW rfl (by decide) (ht9.get 1 rfl) (ht9.hold 5 rfl) rfl (wcs_one _) (by have := unhide HLN; have := unhide HKB; omega) (by decide) (Nat.le_trans (unhide HF).size ht9.fr.size) (fun X hg => And.intro (ht9.hold_grown 1 3 rfl rfl (by decide) hg) (ht9.hold_grown 1 4 rfl rfl (by decide) hg)) ?_ AllReadyH.nil)
      intro A9 c9 X9 hO9 hg9 hF9
      simp only [Act.put, List.setIfInBounds_toArray, List.set_cons_succ, List.set_cons_zero]
      have ht10 := ht9.row 1 rfl hO9 hg9 hF9
      have hh10 := And.intro (ht10.hold 3 rfl) (ht10.hold 4 rfl)
      refine gsem 11 (some 38) (.pointer (some ⟨B, 0, none⟩)) rfl (by kernel_rfl) (by kernel_rfl) (by kernel_rfl) (fun _ _ _ h => h) (by kernel_rfl) (by kernel_rfl) (fun _ _ => by kernel_rfl) hh10 ?_
      simp only [Act.put, List.setIfInBounds_toArray, List.set_cons_succ, List.set_cons_zero]
      refine gsem 12 (some 39) (.pointer (some ⟨B, 8, none⟩)) rfl (by kernel_rfl) (by kernel_rfl) (by kernel_rfl) (fun _ _ _ h => h) (by kernel_rfl) (by kernel_rfl) (fun _ _ => by kernel_rfl) hh10 ?_
      simp only [Act.put, List.setIfInBounds_toArray, List.set_cons_succ, List.set_cons_zero]
      have ht11 := ht10.put 0 rfl 8 [.slice A9 (rs.length + 1) c9] (by simp [SH.cs, VV.cs])
      refine wpAnyH_ready (rs := [13]) (by kernel_rfl) (by simp) (gskp 13 none rfl (by kernel_rfl) (by kernel_rfl) (ex_store (t := 61) (vs := [.slice A9 (rs.length + 1) c9]) rfl rfl rfl rfl (by simp [Value.oneCell']) szWs (ht10.hold 0 rfl) (by simp [SH.cs, VV.cs])) (And.intro (ht11.hold 3 rfl) (ht11.hold 4 rfl)) ?_ AllReadyH.nil)
      simp only [Act.put, List.setIfInBounds_toArray, List.set_cons_succ, List.set_cons_zero]
      refine wpAnyH_done (by kernel_rfl) ?_ _
      try simp only [Act.put, List.setIfInBounds_toArray, List.set_cons_succ, List.set_cons_zero]
      generalize hW : World.setCells _ _ _ _ = W11 at ht11 ⊢
      clear hW
      go_wp2_with fail
      have ht12 : Sy X _ (d.bs B) [boxO B (d.s.cs d.A d.cap ++ [.slice A9 (rs.length + 1) c9, .map (some mb)]), rowO w.heap.size 74 22 (.slice A9 (rs.length + 1) c9) (rs.length + 1) (flatR (rs ++ [⟨⟨q, z⟩, 0, false⟩])), mapO mb nn sz F, boxO B4 q.cs, boxO B5 z.cs] := Sy.left (by rw [flatR_snoc]; exact ht11.drew)
      clear ht11 ht10 hh10 ht9 hO9 hg9 hF9 hS0 LL
      have hh12 := And.intro (ht12.hold 0 rfl) (ht12.hold 3 rfl)
      refine wp_region_held_drew (P := Try.prog) (S := fun Z => Holds Z B (d.s.cs d.A d.cap ++ [.slice A9 (rs.length + 1) c9, .map (some mb)]) ∧ Holds Z B4 q.cs) (by kernel_rfl) hh12 (fun hS0 => ?_)
      refine gsem 0 (some 40) (.pointer (some ⟨B, 0, none⟩)) rfl (by kernel_rfl) (by kernel_rfl) (by kernel_rfl) (fun _ _ _ h => h) (by kernel_rfl) (by kernel_rfl) (fun _ _ => by kernel_rfl) hh12 ?_
      simp only [Act.put, List.setIfInBounds_toArray, List.set_cons_succ, List.set_cons_zero]
      refine gsem 1 (some 41) (.pointer (some ⟨B, 0, none⟩)) rfl (by kernel_rfl) (by kernel_rfl) (by kernel_rfl) (fun _ _ _ h => h) (by kernel_rfl) (by kernel_rfl) (fun _ _ => by kernel_rfl) hh12 ?_
      simp only [Act.put, List.setIfInBounds_toArray, List.set_cons_succ, List.set_cons_zero]
      refine gsem 2 (some 42) (.pointer (some ⟨B, 9, none⟩)) rfl (by kernel_rfl) (by kernel_rfl) (by kernel_rfl) (fun _ _ _ h => h) (by kernel_rfl) (by kernel_rfl) (fun _ _ => by kernel_rfl) hh12 ?_
      simp only [Act.put, List.setIfInBounds_toArray, List.set_cons_succ, List.set_cons_zero]
      refine gsem 3 (some 43) (.map (some mb)) rfl (by kernel_rfl) (by kernel_rfl) (by kernel_rfl) (fun _ _ _ h => h) (by kernel_rfl) (by kernel_rfl) (fun X hX => ex_load1 62 Try.isAgg62 rfl rfl (hX.1) rfl) hh12 ?_
      simp only [Act.put, List.setIfInBounds_toArray, List.set_cons_succ, List.set_cons_zero]
      refine gsem 4 (some 44) (.agg q.cs.toArray) rfl (by kernel_rfl) (by kernel_rfl) (by kernel_rfl) (fun _ _ _ h => h) (by kernel_rfl) (by kernel_rfl) (fun X hX => ex_loadN (vs := q.cs) 30 2 rwK szK rfl rfl (hX.2) rfl rfl) hh12 ?_
      simp only [Act.put, List.setIfInBounds_toArray, List.set_cons_succ, List.set_cons_zero]
      refine gsem 5 (some 45) (.pointer (some ⟨B, 0, none⟩)) rfl (by kernel_rfl) (by kernel_rfl) (by kernel_rfl) (fun _ _ _ h => h) (by kernel_rfl) (by kernel_rfl) (fun _ _ => by kernel_rfl) hh12 ?_
      simp only [Act.put, List.setIfInBounds_toArray, List.set_cons_succ, List.set_cons_zero]
      refine gsem 6 (some 46) (.pointer (some ⟨B, 0, none⟩)) rfl (by kernel_rfl) (by kernel_rfl) (by kernel_rfl) (fun _ _ _ h => h) (by kernel_rfl) (by kernel_rfl) (fun _ _ => by kernel_rfl) hh12 ?_
      simp only [Act.put, List.setIfInBounds_toArray, List.set_cons_succ, List.set_cons_zero]
      refine gsem 7 (some 47) (.pointer (some ⟨B, 8, none⟩)) rfl (by kernel_rfl) (by kernel_rfl) (by kernel_rfl) (fun _ _ _ h => h) (by kernel_rfl) (by kernel_rfl) (fun _ _ => by kernel_rfl) hh12 ?_
      simp only [Act.put, List.setIfInBounds_toArray, List.set_cons_succ, List.set_cons_zero]
      refine gsem 8 (some 48) (.slice A9 (rs.length + 1) c9) rfl (by kernel_rfl) (by kernel_rfl) (by kernel_rfl) (fun _ _ _ h => h) (by kernel_rfl) (by kernel_rfl) (fun X hX => ex_load1 61 Try.isAgg61 rfl rfl (hX.1) rfl) hh12 ?_
      simp only [Act.put, List.setIfInBounds_toArray, List.set_cons_succ, List.set_cons_zero]
      refine gsem 9 (some 49) (.int .i64 ((rs.length + 1 : Nat) : Int)) rfl (by kernel_rfl) (by kernel_rfl) (by kernel_rfl) (fun _ _ _ h => h) (by kernel_rfl) (by kernel_rfl) (fun X hX => ex_lenG 61 74 Try.underlying61 rfl rfl) hh12 ?_
      simp only [Act.put, List.setIfInBounds_toArray, List.set_cons_succ, List.set_cons_zero]
      obtain ⟨W8, hW8, hM8, hf8⟩ := MapI.store (ht12.get 2 rfl) (k := q) (unhide HQ).1 (by have := unhide HNN; have := unhide HKB; unfold maxLen; omega) (rs.length + 1)
      have ht13 := ht12.mput 2 rfl hM8 (Fr.grown hf8.grown)
      refine wpAnyH_ready (rs := [10]) (by kernel_rfl) (by simp) (gskp 10 none rfl (by kernel_rfl) (by kernel_rfl) (ex_upd rfl rfl rfl rfl hW8) (And.intro (ht13.hold 0 rfl) (ht13.hold 3 rfl)) ?_ AllReadyH.nil)
      simp only [Act.put, List.setIfInBounds_toArray, List.set_cons_succ, List.set_cons_zero]
      refine wpAnyH_done (by kernel_rfl) ?_ _
      try simp only [Act.put, List.setIfInBounds_toArray, List.set_cons_succ, List.set_cons_zero]
      go_wp2_with fail
      go_end0
      obtain ⟨h1, h2⟩ := unhide HPN
      rw [unhide HLV] at h2
      refine ⟨{ d with rx := some ⟨.slice A9 (rs.length + 1) c9, rs ++ [⟨⟨q, z⟩, 0, false⟩], mb, nn + 1, if (F q).isSome then sz else sz + 1, putF F q (rs.length + 1)⟩ }, rfl, ?_, by rw [← h2]; rfl⟩
      refine DI.end1 (M := [boxO B4 q.cs, boxO B5 z.cs]) (x' := ⟨.slice A9 (rs.length + 1) c9, rs ++ [⟨⟨q, z⟩, 0, false⟩], mb, nn + 1, if (F q).isSome then sz else sz + 1, putF F q (rs.length + 1)⟩) (unhide HD).base (unhide HF) ?_ rfl (unhide HDI).1 (unhide HDI).2 h1 (fun y hy => ?_) (by have := unhide HLN; simp; omega) (by have := unhide HNN; dsimp only; omega)
      · dsimp only
        rw [List.length_append]
        exact ht13
      · rcases List.mem_append.1 hy with hy | hy
        · exact (unhide HGR) y hy
        · rw [List.mem_singleton.1 hy]
          exact (unhide HQ).2
    · simp only [Act.put, List.setIfInBounds_toArray, List.set_cons_succ, List.set_cons_zero]
      refine wpAnyH_ready (rs := [4]) (by kernel_rfl) (by simp) (gval 4 (some 31) rfl (by kernel_rfl) (by kernel_rfl) (ex_load1 61 Try.isAgg61 rfl rfl (ht8.hold 0 rfl) rfl) (And.intro (ht8.hold 3 rfl) (ht8.hold 4 rfl)) ?_ AllReadyH.nil)
      simp only [Act.put, List.setIfInBounds_toArray, List.set_cons_succ, List.set_cons_zero]
      have ht9 := ht8
      clear ht8 ht0 hh0
      refine wpAnyH_ready (rs := [10]) (by kernel_rfl) (by simp) (gappF (base := w.heap.size) (size := 22) (bytes := 208) (k := rs.length) (m := 1) (news := (RW.cs ⟨⟨q, z⟩, 0, false⟩)) (xs := flatR rs) (v := .slice A0 rs.length c0) 10 (some 37) rfl (by kernel_rfl) (by kernel_rfl) rfl rfl rfl Try.underlying61 infW rfl (by decide) (ht9.get 1 rfl) (ht9.hold 5 rfl) rfl (wcs_one _) (by have := unhide HLN; have := unhide HKB; omega) (by decide) (Nat.le_trans (unhide HF).size ht9.fr.size) (fun X hg => And.intro (ht9.hold_grown 1 3 rfl rfl (by decide) hg) (ht9.hold_grown 1 4 rfl rfl (by decide) hg)) ?_ AllReadyH.nil)
      intro A9 c9 X9 hO9 hg9 hF9
      simp only [Act.put, List.setIfInBounds_toArray, List.set_cons_succ, List.set_cons_zero]
      have ht10 := ht9.row 1 rfl hO9 hg9 hF9
      have hh10 := And.intro (ht10.hold 3 rfl) (ht10.hold 4 rfl)
      refine gsem 11 (some 38) (.pointer (some ⟨B, 0, none⟩)) rfl (by kernel_rfl) (by kernel_rfl) (by kernel_rfl) (fun _ _ _ h => h) (by kernel_rfl) (by kernel_rfl) (fun _ _ => by kernel_rfl) hh10 ?_
      simp only [Act.put, List.setIfInBounds_toArray, List.set_cons_succ, List.set_cons_zero]
      refine gsem 12 (some 39) (.pointer (some ⟨B, 8, none⟩)) rfl (by kernel_rfl) (by kernel_rfl) (by kernel_rfl) (fun _ _ _ h => h) (by kernel_rfl) (by kernel_rfl) (fun _ _ => by kernel_rfl) hh10 ?_
      simp only [Act.put, List.setIfInBounds_toArray, List.set_cons_succ, List.set_cons_zero]
      have ht11 := ht10.put 0 rfl 8 [.slice A9 (rs.length + 1) c9] (by simp [SH.cs, VV.cs])
      refine wpAnyH_ready (rs := [13]) (by kernel_rfl) (by simp) (gskp 13 none rfl (by kernel_rfl) (by kernel_rfl) (ex_store (t := 61) (vs := [.slice A9 (rs.length + 1) c9]) rfl rfl rfl rfl (by simp [Value.oneCell']) szWs (ht10.hold 0 rfl) (by simp [SH.cs, VV.cs])) (And.intro (ht11.hold 3 rfl) (ht11.hold 4 rfl)) ?_ AllReadyH.nil)
      simp only [Act.put, List.setIfInBounds_toArray, List.set_cons_succ, List.set_cons_zero]
      refine wpAnyH_done (by kernel_rfl) ?_ _
      try simp only [Act.put, List.setIfInBounds_toArray, List.set_cons_succ, List.set_cons_zero]
      generalize hW : World.setCells _ _ _ _ = W11 at ht11 ⊢
      clear hW
      go_wp2_with fail
      have ht12 : Sy X _ (d.bs B) [boxO B (d.s.cs d.A d.cap ++ [.slice A9 (rs.length + 1) c9, .map (some mb)]), rowO w.heap.size 74 22 (.slice A9 (rs.length + 1) c9) (rs.length + 1) (flatR (rs ++ [⟨⟨q, z⟩, 0, false⟩])), mapO mb nn sz F, boxO B4 q.cs, boxO B5 z.cs] := Sy.left (by rw [flatR_snoc]; exact ht11.drew)
      clear ht11 ht10 hh10 ht9 hO9 hg9 hF9 hS0 LL
      have hh12 := And.intro (ht12.hold 0 rfl) (ht12.hold 3 rfl)
      refine wp_region_held_drew (P := Try.prog) (S := fun Z => Holds Z B (d.s.cs d.A d.cap ++ [.slice A9 (rs.length + 1) c9, .map (some mb)]) ∧ Holds Z B4 q.cs) (by kernel_rfl) hh12 (fun hS0 => ?_)
      refine gsem 0 (some 40) (.pointer (some ⟨B, 0, none⟩)) rfl (by kernel_rfl) (by kernel_rfl) (by kernel_rfl) (fun _ _ _ h => h) (by kernel_rfl) (by kernel_rfl) (fun _ _ => by kernel_rfl) hh12 ?_
      simp only [Act.put, List.setIfInBounds_toArray, List.set_cons_succ, List.set_cons_zero]
      refine gsem 1 (some 41) (.pointer (some ⟨B, 0, none⟩)) rfl (by kernel_rfl) (by kernel_rfl) (by kernel_rfl) (fun _ _ _ h => h) (by kernel_rfl) (by kernel_rfl) (fun _ _ => by kernel_rfl) hh12 ?_
      simp only [Act.put, List.setIfInBounds_toArray, List.set_cons_succ, List.set_cons_zero]
      refine gsem 2 (some 42) (.pointer (some ⟨B, 9, none⟩)) rfl (by kernel_rfl) (by kernel_rfl) (by kernel_rfl) (fun _ _ _ h => h) (by kernel_rfl) (by kernel_rfl) (fun _ _ => by kernel_rfl) hh12 ?_
      simp only [Act.put, List.setIfInBounds_toArray, List.set_cons_succ, List.set_cons_zero]
      refine gsem 3 (some 43) (.map (some mb)) rfl (by kernel_rfl) (by kernel_rfl) (by kernel_rfl) (fun _ _ _ h => h) (by kernel_rfl) (by kernel_rfl) (fun X hX => ex_load1 62 Try.isAgg62 rfl rfl (hX.1) rfl) hh12 ?_
      simp only [Act.put, List.setIfInBounds_toArray, List.set_cons_succ, List.set_cons_zero]
      refine gsem 4 (some 44) (.agg q.cs.toArray) rfl (by kernel_rfl) (by kernel_rfl) (by kernel_rfl) (fun _ _ _ h => h) (by kernel_rfl) (by kernel_rfl) (fun X hX => ex_loadN (vs := q.cs) 30 2 rwK szK rfl rfl (hX.2) rfl rfl) hh12 ?_
      simp only [Act.put, List.setIfInBounds_toArray, List.set_cons_succ, List.set_cons_zero]
      refine gsem 5 (some 45) (.pointer (some ⟨B, 0, none⟩)) rfl (by kernel_rfl) (by kernel_rfl) (by kernel_rfl) (fun _ _ _ h => h) (by kernel_rfl) (by kernel_rfl) (fun _ _ => by kernel_rfl) hh12 ?_
      simp only [Act.put, List.setIfInBounds_toArray, List.set_cons_succ, List.set_cons_zero]
      refine gsem 6 (some 46) (.pointer (some ⟨B, 0, none⟩)) rfl (by kernel_rfl) (by kernel_rfl) (by kernel_rfl) (fun _ _ _ h => h) (by kernel_rfl) (by kernel_rfl) (fun _ _ => by kernel_rfl) hh12 ?_
      simp only [Act.put, List.setIfInBounds_toArray, List.set_cons_succ, List.set_cons_zero]
      refine gsem 7 (some 47) (.pointer (some ⟨B, 8, none⟩)) rfl (by kernel_rfl) (by kernel_rfl) (by kernel_rfl) (fun _ _ _ h => h) (by kernel_rfl) (by kernel_rfl) (fun _ _ => by kernel_rfl) hh12 ?_
      simp only [Act.put, List.setIfInBounds_toArray, List.set_cons_succ, List.set_cons_zero]
      refine gsem 8 (some 48) (.slice A9 (rs.length + 1) c9) rfl (by kernel_rfl) (by kernel_rfl) (by kernel_rfl) (fun _ _ _ h => h) (by kernel_rfl) (by kernel_rfl) (fun X hX => ex_load1 61 Try.isAgg61 rfl rfl (hX.1) rfl) hh12 ?_
      simp only [Act.put, List.setIfInBounds_toArray, List.set_cons_succ, List.set_cons_zero]
      refine gsem 9 (some 49) (.int .i64 ((rs.length + 1 : Nat) : Int)) rfl (by kernel_rfl) (by kernel_rfl) (by kernel_rfl) (fun _ _ _ h => h) (by kernel_rfl) (by kernel_rfl) (fun X hX => ex_lenG 61 74 Try.underlying61 rfl rfl) hh12 ?_
      simp only [Act.put, List.setIfInBounds_toArray, List.set_cons_succ, List.set_cons_zero]
      obtain ⟨W8, hW8, hM8, hf8⟩ := MapI.store (ht12.get 2 rfl) (k := q) (unhide HQ).1 (by have := unhide HNN; have := unhide HKB; unfold maxLen; omega) (rs.length + 1)
      have ht13 := ht12.mput 2 rfl hM8 (Fr.grown hf8.grown)
      refine wpAnyH_ready (rs := [10]) (by kernel_rfl) (by simp) (gskp 10 none rfl (by kernel_rfl) (by kernel_rfl) (ex_upd rfl rfl rfl rfl hW8) (And.intro (ht13.hold 0 rfl) (ht13.hold 3 rfl)) ?_ AllReadyH.nil)
      simp only [Act.put, List.setIfInBounds_toArray, List.set_cons_succ, List.set_cons_zero]
      refine wpAnyH_done (by kernel_rfl) ?_ _
      try simp only [Act.put, List.setIfInBounds_toArray, List.set_cons_succ, List.set_cons_zero]
      go_wp2_with fail
      go_end0
      obtain ⟨h1, h2⟩ := unhide HPN
      rw [unhide HLV] at h2
      refine ⟨{ d with rx := some ⟨.slice A9 (rs.length + 1) c9, rs ++ [⟨⟨q, z⟩, 0, false⟩], mb, nn + 1, if (F q).isSome then sz else sz + 1, putF F q (rs.length + 1)⟩ }, rfl, ?_, by rw [← h2]; rfl⟩
      refine DI.end1 (M := [boxO B4 q.cs, boxO B5 z.cs]) (x' := ⟨.slice A9 (rs.length + 1) c9, rs ++ [⟨⟨q, z⟩, 0, false⟩], mb, nn + 1, if (F q).isSome then sz else sz + 1, putF F q (rs.length + 1)⟩) (unhide HD).base (unhide HF) ?_ rfl (unhide HDI).1 (unhide HDI).2 h1 (fun y hy => ?_) (by have := unhide HLN; simp; omega) (by have := unhide HNN; dsimp only; omega)
      · dsimp only
        rw [List.length_append]
        exact ht13
      · rcases List.mem_append.1 hy with hy | hy
        · exact (unhide HGR) y hy
        · rw [List.mem_singleton.1 hy]
          exact (unhide HQ).2
  | succ m =>
    obtain ⟨r, hr, hrg, hrk, _⟩ := (unhide HRI).first hm
    have hrl := (List.getElem?_eq_some_iff.1 hr).1
    obtain ⟨g, c, rfl, hgl, _, _⟩ := own_at ((unhide LL).get 1 rfl) rfl hr
    have HPO := hide ((unhide HRI).put_old (d := z) hm hr)
    have HR := hide hr
    have HRK := hide hrk
    have HLT := hide hrl
    have HMB : Hid (m ≤ 1000000000) := hide (by have := unhide HLN; have := unhide HKB; omega)
    have hcal := hide hnz
    clear hnz hr hrg hrk hrl hgl
    go_wp2_with fail
    have hnz := unhide hcal
    have ht0 : Sy X _ (d.bs B) [boxO B (d.s.cs d.A d.cap ++ [.slice (some ⟨g, 0, none⟩) rs.length c, .map (some mb)]), rowO w.heap.size 74 22 (.slice (some ⟨g, 0, none⟩) rs.length c) rs.length (flatR rs), mapO mb nn sz F, boxO B4 q.cs, boxO B5 z.cs] := (unhide LL).drew
    refine wp_region_held_drew (P := Try.prog) (S := fun Z => Sy X Z (d.bs B) [boxO B (d.s.cs d.A d.cap ++ [.slice (some ⟨g, 0, none⟩) rs.length c, .map (some mb)]), rowO w.heap.size 74 22 (.slice (some ⟨g, 0, none⟩) rs.length c) rs.length (flatR rs), mapO mb nn sz F, boxO B4 q.cs, boxO B5 z.cs]) (by kernel_rfl) ht0 (fun hS0 => ?_)
    refine gsem 0 (some 9) (.pointer (some ⟨B, 0, none⟩)) rfl (by kernel_rfl) (by kernel_rfl) (by kernel_rfl) (fun _ _ _ h => h) (by kernel_rfl) (by kernel_rfl) (fun _ _ => by kernel_rfl) ht0 ?_
    simp only [Act.put, List.setIfInBounds_toArray, List.set_cons_succ, List.set_cons_zero]
    refine gsem 1 (some 10) (.pointer (some ⟨B, 0, none⟩)) rfl (by kernel_rfl) (by kernel_rfl) (by kernel_rfl) (fun _ _ _ h => h) (by kernel_rfl) (by kernel_rfl) (fun _ _ => by kernel_rfl) ht0 ?_
    simp only [Act.put, List.setIfInBounds_toArray, List.set_cons_succ, List.set_cons_zero]
    refine gsem 2 (some 11) (.pointer (some ⟨B, 9, none⟩)) rfl (by kernel_rfl) (by kernel_rfl) (by kernel_rfl) (fun _ _ _ h => h) (by kernel_rfl) (by kernel_rfl) (fun _ _ => by kernel_rfl) ht0 ?_
    simp only [Act.put, List.setIfInBounds_toArray, List.set_cons_succ, List.set_cons_zero]
    refine gsem 3 (some 12) (.map (some mb)) rfl (by kernel_rfl) (by kernel_rfl) (by kernel_rfl) (fun _ _ _ h => h) (by kernel_rfl) (by kernel_rfl) (fun X hX => ex_load1 62 Try.isAgg62 rfl rfl (hX.hold 0 rfl) rfl) ht0 ?_
    simp only [Act.put, List.setIfInBounds_toArray, List.set_cons_succ, List.set_cons_zero]
    refine gsem 4 (some 13) (.agg q.cs.toArray) rfl (by kernel_rfl) (by kernel_rfl) (by kernel_rfl) (fun _ _ _ h => h) (by kernel_rfl) (by kernel_rfl) (fun X hX => ex_loadN (vs := q.cs) 30 2 rwK szK rfl rfl (hX.hold (b := B4) (cs := q.cs) 3 rfl) rfl rfl) ht0 ?_
    simp only [Act.put, List.setIfInBounds_toArray, List.set_cons_succ, List.set_cons_zero]
    refine gsem 5 (some 14) (.int .i64 ((m + 1 : Nat) : Int)) rfl (by kernel_rfl) (by kernel_rfl) (by kernel_rfl) (fun _ _ _ h => h) (by kernel_rfl) (by kernel_rfl) (fun X hX => ex_lookV rfl rfl rfl (hX.get 2 rfl) (unhide HQ).1 hnz) ht0 ?_
    simp only [Act.put, List.setIfInBounds_toArray, List.set_cons_succ, List.set_cons_zero]
    refine gsem 6 (some 6) (.int .i64 ((m + 1 : Nat) : Int)) rfl (by kernel_rfl) (by kernel_rfl) (by kernel_rfl) (fun _ _ _ h => h) (by kernel_rfl) (by kernel_rfl) (fun _ _ => by kernel_rfl) ht0 ?_
    simp only [Act.put, List.setIfInBounds_toArray, List.set_cons_succ, List.set_cons_zero]
    refine wpAnyH_done (by kernel_rfl) ?_ _
    try simp only [Act.put, List.setIfInBounds_toArray, List.set_cons_succ, List.set_cons_zero]
    replace LL := hide ht0
    clear ht0 hS0 hnz hcal
    go_wp2_with (first | go_skip | ((with_reducible show wpList _ _ _ _ _ _); first | ((refine rd (by rfl) (ex_neI rfl rfl rfl (by simp; omega)) ?_); simp only [Act.put, List.setIfInBounds_toArray, List.set_cons_succ, List.set_cons_zero])))
    have ht0 : Sy X _ (d.bs B) [boxO B (d.s.cs d.A d.cap ++ [.slice (some ⟨g, 0, none⟩) rs.length c, .map (some mb)]), rowO w.heap.size 74 22 (.slice (some ⟨g, 0, none⟩) rs.length c) rs.length (flatR rs), mapO mb nn sz F, boxO B4 q.cs, boxO B5 z.cs] := (unhide LL).drew
    have hh0 := ht0.hold 0 rfl
    refine wp_region_held_drew (P := Try.prog) (S := fun Z => Holds Z B (d.s.cs d.A d.cap ++ [.slice (some ⟨g, 0, none⟩) rs.length c, .map (some mb)])) (by kernel_rfl) hh0 (fun hS0 => ?_)
    refine gsem 0 (some 17) (.pointer (some ⟨B, 0, none⟩)) rfl (by kernel_rfl) (by kernel_rfl) (by kernel_rfl) (fun _ _ _ h => h) (by kernel_rfl) (by kernel_rfl) (fun _ _ => by kernel_rfl) hh0 ?_
    simp only [Act.put, List.setIfInBounds_toArray, List.set_cons_succ, List.set_cons_zero]
    refine gsem 1 (some 18) (.pointer (some ⟨B, 0, none⟩)) rfl (by kernel_rfl) (by kernel_rfl) (by kernel_rfl) (fun _ _ _ h => h) (by kernel_rfl) (by kernel_rfl) (fun _ _ => by kernel_rfl) hh0 ?_
    simp only [Act.put, List.setIfInBounds_toArray, List.set_cons_succ, List.set_cons_zero]
    refine gsem 2 (some 19) (.pointer (some ⟨B, 8, none⟩)) rfl (by kernel_rfl) (by kernel_rfl) (by kernel_rfl) (fun _ _ _ h => h) (by kernel_rfl) (by kernel_rfl) (fun _ _ => by kernel_rfl) hh0 ?_
    simp only [Act.put, List.setIfInBounds_toArray, List.set_cons_succ, List.set_cons_zero]
    refine gsem 3 (some 20) (.slice (some ⟨g, 0, none⟩) rs.length c) rfl (by kernel_rfl) (by kernel_rfl) (by kernel_rfl) (fun _ _ _ h => h) (by kernel_rfl) (by kernel_rfl) (fun X hX => ex_load1 61 Try.isAgg61 rfl rfl (hX) rfl) hh0 ?_
    simp only [Act.put, List.setIfInBounds_toArray, List.set_cons_succ, List.set_cons_zero]
    refine gsem 4 (some 21) (.int .i64 ((m + 1 : Nat) : Int)) rfl (by kernel_rfl) (by kernel_rfl) (by kernel_rfl) (fun _ _ _ h => h) (by kernel_rfl) (by kernel_rfl) (fun _ _ => by kernel_rfl) hh0 ?_
    simp only [Act.put, List.setIfInBounds_toArray, List.set_cons_succ, List.set_cons_zero]
    refine gsem 5 (some 22) (.int .i64 (m : Nat)) rfl (by kernel_rfl) (by kernel_rfl) (by kernel_rfl) (fun _ _ _ h => h) (by kernel_rfl) (by kernel_rfl) (fun X hX => ex_subN m rfl rfl rfl (unhide HMB)) hh0 ?_
    simp only [Act.put, List.setIfInBounds_toArray, List.set_cons_succ, List.set_cons_zero]
    refine wpAnyH_ready (rs := [6]) (by kernel_rfl) (by simp) (gval 6 (some 23) rfl (by kernel_rfl) (by kernel_rfl) (ex_loadN (vs := z.cs) 33 18 rwD szD rfl rfl (ht0.hold 4 rfl) rfl rfl) (ht0.hold 0 rfl) ?_ AllReadyH.nil)
    simp only [Act.put, List.setIfInBounds_toArray, List.set_cons_succ, List.set_cons_zero]
    refine gsem 7 (some 24) (.pointer (some ⟨g, 0 + m * 22, none⟩)) rfl (by kernel_rfl) (by kernel_rfl) (by kernel_rfl) (fun _ _ _ h => h) (by kernel_rfl) (by kernel_rfl) (fun X hX => ex_indexG 61 22 m unWs idWs rfl rfl rfl (unhide HLT)) hh0 ?_
    simp only [Act.put, List.setIfInBounds_toArray, List.set_cons_succ, List.set_cons_zero]
    refine gsem 8 (some 25) (.pointer (some ⟨g, 0 + m * 22, none⟩)) rfl (by kernel_rfl) (by kernel_rfl) (by kernel_rfl) (fun _ _ _ h => h) (by kernel_rfl) (by kernel_rfl) (fun _ _ => by kernel_rfl) hh0 ?_
    simp only [Act.put, List.setIfInBounds_toArray, List.set_cons_succ, List.set_cons_zero]
    refine gsem 9 (some 26) (.pointer (some ⟨g, 0 + m * 22 + 2, none⟩)) rfl (by kernel_rfl) (by kernel_rfl) (by kernel_rfl) (fun _ _ _ h => h) (by kernel_rfl) (by kernel_rfl) (fun _ _ => by kernel_rfl) hh0 ?_
    simp only [Act.put, List.setIfInBounds_toArray, List.set_cons_succ, List.set_cons_zero]
    obtain ⟨hth, ht1⟩ := ht0.elem 1 (p := 2) (vs := z.cs) (r' := ⟨⟨r.p.k, z⟩, r.nx, r.g⟩) rfl rfl (unhide HR) (by show 2 + 18 ≤ 22; omega) rfl
    refine wpAnyH_ready (rs := [10]) (by kernel_rfl) (by simp) (gskp 10 none rfl (by kernel_rfl) (by kernel_rfl) (ex_storeT (t := 33) (vs := z.cs) rfl rfl rfl rfl (by simp [DD.cs, Value.oneCell']) szD hth) (ht1.hold 0 rfl) ?_ AllReadyH.nil)
    simp only [Act.put, List.setIfInBounds_toArray, List.set_cons_succ, List.set_cons_zero]
    refine wpAnyH_done (by kernel_rfl) ?_ _
    try simp only [Act.put, List.setIfInBounds_toArray, List.set_cons_succ, List.set_cons_zero]
    generalize hW : World.setCells _ _ _ _ = W11 at ht1 ⊢
    replace LL := hide ht1
    clear hW ht0 ht1 hh0 hS0 hth
    go_wp2_with fail
    go_end0
    obtain ⟨h1, h2⟩ := unhide HPO
    rw [unhide HLV] at h2
    have hsl : (rs.set m (⟨⟨r.p.k, z⟩, r.nx, r.g⟩ : RW)).length = rs.length := List.length_set
    refine ⟨{ d with rx := some ⟨.slice (some ⟨g, 0, none⟩) rs.length c, rs.set m ⟨⟨r.p.k, z⟩, r.nx, r.g⟩, mb, nn, sz, F⟩ }, rfl, ?_, by rw [← h2]; rfl⟩
    refine DI.end1 (M := [boxO B4 q.cs, boxO B5 z.cs]) (x' := ⟨.slice (some ⟨g, 0, none⟩) rs.length c, rs.set m ⟨⟨r.p.k, z⟩, r.nx, r.g⟩, mb, nn, sz, F⟩) (unhide HD).base (unhide HF) ?_ rfl (unhide HDI).1 (unhide HDI).2 h1 (fun y hy => ?_) (by have := unhide HLN; dsimp only; rw [hsl]; omega) (by have := unhide HNN; dsimp only; omega)
    · dsimp only
      rw [hsl]
      exact unhide LL
    · rcases List.mem_or_eq_of_mem_set hy with hy | rfl
      · exact (unhide HGR) y hy
      · have e : (⟨r.p.k, z⟩ : PR) = ⟨q, z⟩ := by rw [unhide HRK]
        dsimp only
        rw [e]
        exact (unhide HQ).2
end Go.Proofs.Ytcflglloopgieaa
