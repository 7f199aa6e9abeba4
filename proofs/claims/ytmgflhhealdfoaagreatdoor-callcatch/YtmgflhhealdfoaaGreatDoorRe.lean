import Derived.Test.YtmgflhhealdfoaaGreatDoorRd
set_option linter.all false
namespace Go.Proofs.YtmgflhhealdfoaaGreatDoor
set_option maxHeartbeats 1000000
section
open Go Go.Proofs Go.Maps Go.RowKit FM
attribute [local go_sem] mm_GetOwnProperty mm_DefineOwnProperty mm_Get ta_caller ta_builder
def DefP (h : HP) (j : Nat) (q : OB) (k : KK) (d : DD) (h1 : HP) (y : Bool) : Prop := y = appB q.x (getD q.T k) d ∧ ((y = false ∧ h1 = h) ∨ (y = true ∧ ∃ T' : TT, h1 = h.tab j q T' ∧ T'.last ≤ q.T.last + 1 ∧ pr T' = putP (pr q.T) k (appD q.x (getD q.T k) d)))
theorem put_ok (T : TT) (k : KK) (d : DD) (w : World) (hT : T.Is w) (hU : Lib.Utf8Tabs 1 2 w) (hk : OkK k) (hl : T.last < 4000000) (hTT : ∀ b ∈ T.blocks, 6 ≤ b) (hg : goodK k = true) : Calls Tryz.prog 128 #[.pointer (some ⟨T.t, 0, none⟩), k.agg, d.agg] w fun e w' => e = .returned (.int .i64 0) ∧ ∃ T' : TT, T'.Is w' ∧ T'.t = T.t ∧ Fr w w' T.blocks ∧ (∀ b ∈ T'.blocks, b ∈ T.blocks ∨ w.heap.size ≤ b) ∧ PutT T k d T' := by
  refine (put12 T k d w hT hU hk hl (fun b hb => Nat.le_trans (by decide) (hTT b hb))).mono (fun e w' hh => ?_)
  obtain ⟨h1, T', a, b, c, d2, e2⟩ := hh
  exact ⟨by rw [h1, if_pos hg], T', a, b, c, d2, e2⟩
set_option maxRecDepth 100000 in
theorem ord_define (h : HP) (j : Nat) (q : OB) (k : KK) (d : DD) (w : World) (H : h.Is w) (hl : h.l.length ≤ 65536) (hj : h.l[j]? = some q) (hT : Tabs w) (hk : OkK k) (hg : goodK k = true) (hFn : FD (getD q.T k)) (hFd : FD d) (hlast : q.T.last < 4000000) : Calls Tryz.prog 123 #[.agg #[], .pointer (some ⟨h.b, 0, none⟩), .int .i64 ((j : Int) + 1), k.agg, d.agg] w fun e w' => ∃ (h1 : HP) (y : Bool), e = .returned (.tuple #[.bool y, .nilIface]) ∧ DefP h j q k d h1 y ∧ h.To h1 w w' := by
  have HA := fun (w : World) (hT : Tabs w) => apply_any q.x (getD q.T k) d hFn hFd w hT.1
  cases hb : appB q.x (getD q.T k) d with
  | false =>
    simp only [hb] at HA
    have SS := hide H.start
    rw [kagg, dagg]
    go_enter Tryz.func123, Tryz.ntmps123
    go_wp2_with (first | go_skip | ((with_reducible show wpList _ _ _ _ _ _); first | ((refine bx0 72 (by rfl) rfl rfl (unhide SS) ?_); intro X0 B0 S0; replace SS := hide S0; clear S0; simp only [Act.put, n1, n2, n3]) | (refine zB 26 (k.cs) (by rfl) rfl rfl rfl SS ?_; clear SS; intro Xa Ba SS; simp only [Act.put, n1, n2, n3]) | (refine zB 38 (d.cs) (by rfl) rfl rfl rfl SS ?_; clear SS; intro Xb Bb SS; simp only [Act.put, n1, n2, n3])))
    refine (at_h h j q _ ((unhide SS).hp 0 rfl) hj hl).mono ?_
    rintro _ _ ⟨rfl, rfl⟩
    go_wp2
    have hS2 : Sy w _ h.blocks [hpO h, boxO Ba k.cs, boxO Bb d.cs] := (unhide SS).drew
    clear SS
    have cu : ∀ {X : World} {M : List Ob}, Sy w X h.blocks ([hpO h, boxO Ba k.cs, boxO Bb d.cs] ++ M) → Sy w X h.blocks [hpO h, boxO Ba k.cs, boxO Bb d.cs] := fun h => Sy.left h
    refine wp_region_held_drew (P := Tryz.prog) (S := fun X => Sy w X h.blocks _) (by kernel_rfl) (hS2) (fun hS0 => ?_)
    refine gp 0 (some 22) (.pointer (some ⟨q.b, 0, none⟩)) rfl rfl (hS2) ?_
    simp only [Act.put, n1, n2, n3]
    refine gp 1 (some 23) (.pointer (some ⟨q.b, 0, none⟩)) rfl rfl (hS2) ?_
    simp only [Act.put, n1, n2, n3]
    refine gp 2 (some 24) (.pointer (some ⟨q.b, 7, none⟩)) rfl rfl (hS2) ?_
    simp only [Act.put, n1, n2, n3]
    refine gq 3 (some 25) (.pointer (some ⟨q.T.t, 0, none⟩)) rfl rfl (fun X hX => ex_load1 97 Tryz.isAgg97 rfl rfl ((hX.hp 0 rfl).ob hj).1 rfl) (hS2) ?_
    simp only [Act.put, n1, n2, n3]
    refine gq 4 (some 26) (.agg k.cs.toArray) rfl rfl (fun X hX => ex_loadN (vs := k.cs) 26 2 rwK szK rfl rfl (hX.hold 1 rfl) rfl rfl) (hS2) ?_
    simp only [Act.put, n1, n2, n3]
    refine gr (rs := [5, 9]) (gcB 5 (some 27) rfl rfl hS2 (get19 q.T k _ ((hS2.hp 0 rfl).ob hj).2.1 hk) id ?_ (galS (v := .agg (zeroD.cs).toArray) 9 (some 13) 38 (zeroD.cs) rfl rfl (by kernel_rfl) rfl (fun w => by kernel_rfl) rfl (Nat.succ_pos _) hS2 (fun _ hZ => cu hZ) ?_ gn))
    · intro Ys1 hqs1
      refine gp 6 (some 21) (.tuple #[(getD q.T k).agg, .bool (q.T.find k).isSome]) rfl rfl (hqs1) ?_
      simp only [Act.put, n1, n2, n3]
      refine gp 7 (some 28) ((getD q.T k).agg) rfl rfl (hqs1) ?_
      simp only [Act.put, n1, n2, n3]
      refine gp 8 (some 29) (.bool (q.T.find k).isSome) rfl rfl (hqs1) ?_
      simp only [Act.put, n1, n2, n3]
      refine gr (rs := [9]) (galS (v := .agg (zeroD.cs).toArray) 9 (some 13) 38 (zeroD.cs) rfl rfl (by kernel_rfl) rfl (fun w => by kernel_rfl) rfl (Nat.succ_pos _) hqs1 (fun _ hZ => cu hZ) ?_ gn)
      intro Ys2 Bs2 hEs2 hqs2
      clear hEs2
      simp only [Act.put, n1, n2, n3]
      refine gr (rs := [10]) (gstS (vs := (getD q.T k).cs) (new := (getD q.T k).cs) 10 3 38 rfl rfl (by kernel_rfl) rfl rfl rfl rfl (oneD _) szD hqs2 rfl (by simp [cput, VV.cs, KK.cs, DD.cs, OB.cs, hcs, zeroD, zeroV]) (by simp [cput, VV.cs, KK.cs, DD.cs, OB.cs, hcs, zeroD, zeroV]) (fun _ hZ => cu hZ) ?_ gn)
      intro Ys3 hqs3
      refine gp 11 (some 14) (.bool (q.T.find k).isSome) rfl rfl (cu hqs3) ?_
      simp only [Act.put, n1, n2, n3]
      refine wpAnyH_done (by kernel_rfl) ?_ _
      try simp only [Act.put, n1, n2, n3]
      have SS := hide hqs3
      go_wp2
      have hS3 : Sy w _ h.blocks [hpO h, boxO Ba k.cs, boxO Bb d.cs, boxO Bs2 ((getD q.T k).cs)] := (unhide SS).drew
      clear SS
      have cu : ∀ {X : World} {M : List Ob}, Sy w X h.blocks ([hpO h, boxO Ba k.cs, boxO Bb d.cs, boxO Bs2 ((getD q.T k).cs)] ++ M) → Sy w X h.blocks [hpO h, boxO Ba k.cs, boxO Bb d.cs, boxO Bs2 ((getD q.T k).cs)] := fun h => Sy.left h
      refine wp_region_held_drew (P := Tryz.prog) (S := fun X => Sy w X h.blocks _) (by kernel_rfl) (hS3) (fun hS0 => ?_)
      refine gp 0 (some 31) (.pointer (some ⟨q.b, 0, none⟩)) rfl rfl (hS3) ?_
      simp only [Act.put, n1, n2, n3]
      refine gp 1 (some 32) (.pointer (some ⟨q.b, 0, none⟩)) rfl rfl (hS3) ?_
      simp only [Act.put, n1, n2, n3]
      refine gp 2 (some 33) (.pointer (some ⟨q.b, 6, none⟩)) rfl rfl (hS3) ?_
      simp only [Act.put, n1, n2, n3]
      refine gq 3 (some 34) (.bool q.x) rfl rfl (fun X hX => ex_load1 4 Tryz.isAgg4 rfl rfl ((hX.hp 0 rfl).ob hj).1 rfl) (hS3) ?_
      simp only [Act.put, n1, n2, n3]
      refine gq 4 (some 35) (.agg ((getD q.T k).cs).toArray) rfl rfl (fun X hX => ex_loadN (vs := (getD q.T k).cs) 38 18 rwD szD rfl rfl (hX.hold 3 rfl) rfl rfl) (hS3) ?_
      simp only [Act.put, n1, n2, n3]
      refine gq 5 (some 36) (.agg (d.cs).toArray) rfl rfl (fun X hX => ex_loadN (vs := d.cs) 38 18 rwD szD rfl rfl (hX.hold 2 rfl) rfl rfl) (hS3) ?_
      simp only [Act.put, n1, n2, n3]
      refine gr (rs := [6, 11]) (gcB 6 (some 37) rfl rfl hS3 (HA _ (hT.fr hS3.fr H.low)) id ?_ (galS (v := .agg (zeroD.cs).toArray) 11 (some 15) 38 (zeroD.cs) rfl rfl (by kernel_rfl) rfl (fun w => by kernel_rfl) rfl (Nat.succ_pos _) hS3 (fun _ hZ => cu hZ) ?_ gn))
      · intro Yt1 hqt1
        refine gp 7 (some 30) (.tuple #[(appD q.x (getD q.T k) d).agg, .bool false, .int .i64 (appE (getD q.T k) d)]) rfl rfl (hqt1) ?_
        simp only [Act.put, n1, n2, n3]
        refine gp 8 (some 38) ((appD q.x (getD q.T k) d).agg) rfl rfl (hqt1) ?_
        simp only [Act.put, n1, n2, n3]
        refine gp 9 (some 39) (.bool false) rfl rfl (hqt1) ?_
        simp only [Act.put, n1, n2, n3]
        refine gp 10 (some 40) (.int .i64 (appE (getD q.T k) d)) rfl rfl (hqt1) ?_
        simp only [Act.put, n1, n2, n3]
        refine gr (rs := [11]) (galS (v := .agg (zeroD.cs).toArray) 11 (some 15) 38 (zeroD.cs) rfl rfl (by kernel_rfl) rfl (fun w => by kernel_rfl) rfl (Nat.succ_pos _) hqt1 (fun _ hZ => cu hZ) ?_ gn)
        intro Yt2 Bt2 hEt2 hqt2
        clear hEt2
        simp only [Act.put, n1, n2, n3]
        refine gr (rs := [12]) (gstS (vs := (appD q.x (getD q.T k) d).cs) (new := (appD q.x (getD q.T k) d).cs) 12 4 38 rfl rfl (by kernel_rfl) rfl rfl rfl rfl (oneD _) szD hqt2 rfl (by simp [cput, VV.cs, KK.cs, DD.cs, OB.cs, hcs, zeroD, zeroV]) (by simp [cput, VV.cs, KK.cs, DD.cs, OB.cs, hcs, zeroD, zeroV]) (fun _ hZ => cu hZ) ?_ gn)
        intro Yt3 hqt3
        refine gp 13 (some 16) (.bool false) rfl rfl (cu hqt3) ?_
        simp only [Act.put, n1, n2, n3]
        refine gp 14 (some 17) (.int .i64 (appE (getD q.T k) d)) rfl rfl (cu hqt3) ?_
        simp only [Act.put, n1, n2, n3]
        refine wpAnyH_done (by kernel_rfl) ?_ _
        try simp only [Act.put, n1, n2, n3]
        have SS := hide hqt3
        go_wp2
        go_ret2
        exact ⟨h, false, rfl, ⟨hb.symm, .inl ⟨rfl, rfl⟩⟩, HP.To.end H (unhide SS) rfl⟩
      · intro Yt4 Bt4 hEt4 hqt4
        clear hEt4
        simp only [Act.put, n1, n2, n3]
        refine gr (rs := [6]) (gcB 6 (some 37) rfl rfl hqt4 (HA _ (hT.fr hqt4.fr H.low)) (fun x => cu x) ?_ gn)
        intro Yt5 hqt5
        refine gp 7 (some 30) (.tuple #[(appD q.x (getD q.T k) d).agg, .bool false, .int .i64 (appE (getD q.T k) d)]) rfl rfl (cu hqt5) ?_
        simp only [Act.put, n1, n2, n3]
        refine gp 8 (some 38) ((appD q.x (getD q.T k) d).agg) rfl rfl (cu hqt5) ?_
        simp only [Act.put, n1, n2, n3]
        refine gp 9 (some 39) (.bool false) rfl rfl (cu hqt5) ?_
        simp only [Act.put, n1, n2, n3]
        refine gp 10 (some 40) (.int .i64 (appE (getD q.T k) d)) rfl rfl (cu hqt5) ?_
        simp only [Act.put, n1, n2, n3]
        refine gr (rs := [12]) (gstS (vs := (appD q.x (getD q.T k) d).cs) (new := (appD q.x (getD q.T k) d).cs) 12 4 38 rfl rfl (by kernel_rfl) rfl rfl rfl rfl (oneD _) szD hqt5 rfl (by simp [cput, VV.cs, KK.cs, DD.cs, OB.cs, hcs, zeroD, zeroV]) (by simp [cput, VV.cs, KK.cs, DD.cs, OB.cs, hcs, zeroD, zeroV]) (fun _ hZ => cu hZ) ?_ gn)
        intro Yt6 hqt6
        refine gp 13 (some 16) (.bool false) rfl rfl (cu hqt6) ?_
        simp only [Act.put, n1, n2, n3]
        refine gp 14 (some 17) (.int .i64 (appE (getD q.T k) d)) rfl rfl (cu hqt6) ?_
        simp only [Act.put, n1, n2, n3]
        refine wpAnyH_done (by kernel_rfl) ?_ _
        try simp only [Act.put, n1, n2, n3]
        have SS := hide hqt6
        go_wp2
        go_ret2
        exact ⟨h, false, rfl, ⟨hb.symm, .inl ⟨rfl, rfl⟩⟩, HP.To.end H (unhide SS) rfl⟩
    · intro Ys4 Bs4 hEs4 hqs4
      clear hEs4
      simp only [Act.put, n1, n2, n3]
      refine gr (rs := [5]) (gcB 5 (some 27) rfl rfl hqs4 (get19 q.T k _ ((hqs4.hp 0 rfl).ob hj).2.1 hk) (fun x => cu x) ?_ gn)
      intro Ys5 hqs5
      refine gp 6 (some 21) (.tuple #[(getD q.T k).agg, .bool (q.T.find k).isSome]) rfl rfl (cu hqs5) ?_
      simp only [Act.put, n1, n2, n3]
      refine gp 7 (some 28) ((getD q.T k).agg) rfl rfl (cu hqs5) ?_
      simp only [Act.put, n1, n2, n3]
      refine gp 8 (some 29) (.bool (q.T.find k).isSome) rfl rfl (cu hqs5) ?_
      simp only [Act.put, n1, n2, n3]
      refine gr (rs := [10]) (gstS (vs := (getD q.T k).cs) (new := (getD q.T k).cs) 10 3 38 rfl rfl (by kernel_rfl) rfl rfl rfl rfl (oneD _) szD hqs5 rfl (by simp [cput, VV.cs, KK.cs, DD.cs, OB.cs, hcs, zeroD, zeroV]) (by simp [cput, VV.cs, KK.cs, DD.cs, OB.cs, hcs, zeroD, zeroV]) (fun _ hZ => cu hZ) ?_ gn)
      intro Ys6 hqs6
      refine gp 11 (some 14) (.bool (q.T.find k).isSome) rfl rfl (cu hqs6) ?_
      simp only [Act.put, n1, n2, n3]
      refine wpAnyH_done (by kernel_rfl) ?_ _
      try simp only [Act.put, n1, n2, n3]
      have SS := hide hqs6
      go_wp2
      have hS3 : Sy w _ h.blocks [hpO h, boxO Ba k.cs, boxO Bb d.cs, boxO Bs4 ((getD q.T k).cs)] := (unhide SS).drew
      clear SS
      have cu : ∀ {X : World} {M : List Ob}, Sy w X h.blocks ([hpO h, boxO Ba k.cs, boxO Bb d.cs, boxO Bs4 ((getD q.T k).cs)] ++ M) → Sy w X h.blocks [hpO h, boxO Ba k.cs, boxO Bb d.cs, boxO Bs4 ((getD q.T k).cs)] := fun h => Sy.left h
      refine wp_region_held_drew (P := Tryz.prog) (S := fun X => Sy w X h.blocks _) (by kernel_rfl) (hS3) (fun hS0 => ?_)
      refine gp 0 (some 31) (.pointer (some ⟨q.b, 0, none⟩)) rfl rfl (hS3) ?_
      simp only [Act.put, n1, n2, n3]
      refine gp 1 (some 32) (.pointer (some ⟨q.b, 0, none⟩)) rfl rfl (hS3) ?_
      simp only [Act.put, n1, n2, n3]
      refine gp 2 (some 33) (.pointer (some ⟨q.b, 6, none⟩)) rfl rfl (hS3) ?_
      simp only [Act.put, n1, n2, n3]
      refine gq 3 (some 34) (.bool q.x) rfl rfl (fun X hX => ex_load1 4 Tryz.isAgg4 rfl rfl ((hX.hp 0 rfl).ob hj).1 rfl) (hS3) ?_
      simp only [Act.put, n1, n2, n3]
      refine gq 4 (some 35) (.agg ((getD q.T k).cs).toArray) rfl rfl (fun X hX => ex_loadN (vs := (getD q.T k).cs) 38 18 rwD szD rfl rfl (hX.hold 3 rfl) rfl rfl) (hS3) ?_
      simp only [Act.put, n1, n2, n3]
      refine gq 5 (some 36) (.agg (d.cs).toArray) rfl rfl (fun X hX => ex_loadN (vs := d.cs) 38 18 rwD szD rfl rfl (hX.hold 2 rfl) rfl rfl) (hS3) ?_
      simp only [Act.put, n1, n2, n3]
      refine gr (rs := [6, 11]) (gcB 6 (some 37) rfl rfl hS3 (HA _ (hT.fr hS3.fr H.low)) id ?_ (galS (v := .agg (zeroD.cs).toArray) 11 (some 15) 38 (zeroD.cs) rfl rfl (by kernel_rfl) rfl (fun w => by kernel_rfl) rfl (Nat.succ_pos _) hS3 (fun _ hZ => cu hZ) ?_ gn))
      · intro Yt1 hqt1
        refine gp 7 (some 30) (.tuple #[(appD q.x (getD q.T k) d).agg, .bool false, .int .i64 (appE (getD q.T k) d)]) rfl rfl (hqt1) ?_
        simp only [Act.put, n1, n2, n3]
        refine gp 8 (some 38) ((appD q.x (getD q.T k) d).agg) rfl rfl (hqt1) ?_
        simp only [Act.put, n1, n2, n3]
        refine gp 9 (some 39) (.bool false) rfl rfl (hqt1) ?_
        simp only [Act.put, n1, n2, n3]
        refine gp 10 (some 40) (.int .i64 (appE (getD q.T k) d)) rfl rfl (hqt1) ?_
        simp only [Act.put, n1, n2, n3]
        refine gr (rs := [11]) (galS (v := .agg (zeroD.cs).toArray) 11 (some 15) 38 (zeroD.cs) rfl rfl (by kernel_rfl) rfl (fun w => by kernel_rfl) rfl (Nat.succ_pos _) hqt1 (fun _ hZ => cu hZ) ?_ gn)
        intro Yt2 Bt2 hEt2 hqt2
        clear hEt2
        simp only [Act.put, n1, n2, n3]
        refine gr (rs := [12]) (gstS (vs := (appD q.x (getD q.T k) d).cs) (new := (appD q.x (getD q.T k) d).cs) 12 4 38 rfl rfl (by kernel_rfl) rfl rfl rfl rfl (oneD _) szD hqt2 rfl (by simp [cput, VV.cs, KK.cs, DD.cs, OB.cs, hcs, zeroD, zeroV]) (by simp [cput, VV.cs, KK.cs, DD.cs, OB.cs, hcs, zeroD, zeroV]) (fun _ hZ => cu hZ) ?_ gn)
        intro Yt3 hqt3
        refine gp 13 (some 16) (.bool false) rfl rfl (cu hqt3) ?_
        simp only [Act.put, n1, n2, n3]
        refine gp 14 (some 17) (.int .i64 (appE (getD q.T k) d)) rfl rfl (cu hqt3) ?_
        simp only [Act.put, n1, n2, n3]
        refine wpAnyH_done (by kernel_rfl) ?_ _
        try simp only [Act.put, n1, n2, n3]
        have SS := hide hqt3
        go_wp2
        go_ret2
        exact ⟨h, false, rfl, ⟨hb.symm, .inl ⟨rfl, rfl⟩⟩, HP.To.end H (unhide SS) rfl⟩
      · intro Yt4 Bt4 hEt4 hqt4
        clear hEt4
        simp only [Act.put, n1, n2, n3]
        refine gr (rs := [6]) (gcB 6 (some 37) rfl rfl hqt4 (HA _ (hT.fr hqt4.fr H.low)) (fun x => cu x) ?_ gn)
        intro Yt5 hqt5
        refine gp 7 (some 30) (.tuple #[(appD q.x (getD q.T k) d).agg, .bool false, .int .i64 (appE (getD q.T k) d)]) rfl rfl (cu hqt5) ?_
        simp only [Act.put, n1, n2, n3]
        refine gp 8 (some 38) ((appD q.x (getD q.T k) d).agg) rfl rfl (cu hqt5) ?_
        simp only [Act.put, n1, n2, n3]
        refine gp 9 (some 39) (.bool false) rfl rfl (cu hqt5) ?_
        simp only [Act.put, n1, n2, n3]
        refine gp 10 (some 40) (.int .i64 (appE (getD q.T k) d)) rfl rfl (cu hqt5) ?_
        simp only [Act.put, n1, n2, n3]
        refine gr (rs := [12]) (gstS (vs := (appD q.x (getD q.T k) d).cs) (new := (appD q.x (getD q.T k) d).cs) 12 4 38 rfl rfl (by kernel_rfl) rfl rfl rfl rfl (oneD _) szD hqt5 rfl (by simp [cput, VV.cs, KK.cs, DD.cs, OB.cs, hcs, zeroD, zeroV]) (by simp [cput, VV.cs, KK.cs, DD.cs, OB.cs, hcs, zeroD, zeroV]) (fun _ hZ => cu hZ) ?_ gn)
        intro Yt6 hqt6
        refine gp 13 (some 16) (.bool false) rfl rfl (cu hqt6) ?_
        simp only [Act.put, n1, n2, n3]
        refine gp 14 (some 17) (.int .i64 (appE (getD q.T k) d)) rfl rfl (cu hqt6) ?_
        simp only [Act.put, n1, n2, n3]
        refine wpAnyH_done (by kernel_rfl) ?_ _
        try simp only [Act.put, n1, n2, n3]
        have SS := hide hqt6
        go_wp2
        go_ret2
        exact ⟨h, false, rfl, ⟨hb.symm, .inl ⟨rfl, rfl⟩⟩, HP.To.end H (unhide SS) rfl⟩
  | true =>
    simp only [hb] at HA
    have SS := hide H.start
    rw [kagg, dagg]
    go_enter Tryz.func123, Tryz.ntmps123
    go_wp2_with (first | go_skip | ((with_reducible show wpList _ _ _ _ _ _); first | ((refine bx0 72 (by rfl) rfl rfl (unhide SS) ?_); intro X0 B0 S0; replace SS := hide S0; clear S0; simp only [Act.put, n1, n2, n3]) | (refine zB 26 (k.cs) (by rfl) rfl rfl rfl SS ?_; clear SS; intro Xa Ba SS; simp only [Act.put, n1, n2, n3]) | (refine zB 38 (d.cs) (by rfl) rfl rfl rfl SS ?_; clear SS; intro Xb Bb SS; simp only [Act.put, n1, n2, n3])))
    refine (at_h h j q _ ((unhide SS).hp 0 rfl) hj hl).mono ?_
    rintro _ _ ⟨rfl, rfl⟩
    go_wp2
    have hS2 : Sy w _ h.blocks [hpO h, boxO Ba k.cs, boxO Bb d.cs] := (unhide SS).drew
    clear SS
    have cu : ∀ {X : World} {M : List Ob}, Sy w X h.blocks ([hpO h, boxO Ba k.cs, boxO Bb d.cs] ++ M) → Sy w X h.blocks [hpO h, boxO Ba k.cs, boxO Bb d.cs] := fun h => Sy.left h
    refine wp_region_held_drew (P := Tryz.prog) (S := fun X => Sy w X h.blocks _) (by kernel_rfl) (hS2) (fun hS0 => ?_)
    refine gp 0 (some 22) (.pointer (some ⟨q.b, 0, none⟩)) rfl rfl (hS2) ?_
    simp only [Act.put, n1, n2, n3]
    refine gp 1 (some 23) (.pointer (some ⟨q.b, 0, none⟩)) rfl rfl (hS2) ?_
    simp only [Act.put, n1, n2, n3]
    refine gp 2 (some 24) (.pointer (some ⟨q.b, 7, none⟩)) rfl rfl (hS2) ?_
    simp only [Act.put, n1, n2, n3]
    refine gq 3 (some 25) (.pointer (some ⟨q.T.t, 0, none⟩)) rfl rfl (fun X hX => ex_load1 97 Tryz.isAgg97 rfl rfl ((hX.hp 0 rfl).ob hj).1 rfl) (hS2) ?_
    simp only [Act.put, n1, n2, n3]
    refine gq 4 (some 26) (.agg k.cs.toArray) rfl rfl (fun X hX => ex_loadN (vs := k.cs) 26 2 rwK szK rfl rfl (hX.hold 1 rfl) rfl rfl) (hS2) ?_
    simp only [Act.put, n1, n2, n3]
    refine gr (rs := [5, 9]) (gcB 5 (some 27) rfl rfl hS2 (get19 q.T k _ ((hS2.hp 0 rfl).ob hj).2.1 hk) id ?_ (galS (v := .agg (zeroD.cs).toArray) 9 (some 13) 38 (zeroD.cs) rfl rfl (by kernel_rfl) rfl (fun w => by kernel_rfl) rfl (Nat.succ_pos _) hS2 (fun _ hZ => cu hZ) ?_ gn))
    · intro Ys1 hqs1
      refine gp 6 (some 21) (.tuple #[(getD q.T k).agg, .bool (q.T.find k).isSome]) rfl rfl (hqs1) ?_
      simp only [Act.put, n1, n2, n3]
      refine gp 7 (some 28) ((getD q.T k).agg) rfl rfl (hqs1) ?_
      simp only [Act.put, n1, n2, n3]
      refine gp 8 (some 29) (.bool (q.T.find k).isSome) rfl rfl (hqs1) ?_
      simp only [Act.put, n1, n2, n3]
      refine gr (rs := [9]) (galS (v := .agg (zeroD.cs).toArray) 9 (some 13) 38 (zeroD.cs) rfl rfl (by kernel_rfl) rfl (fun w => by kernel_rfl) rfl (Nat.succ_pos _) hqs1 (fun _ hZ => cu hZ) ?_ gn)
      intro Ys2 Bs2 hEs2 hqs2
      clear hEs2
      simp only [Act.put, n1, n2, n3]
      refine gr (rs := [10]) (gstS (vs := (getD q.T k).cs) (new := (getD q.T k).cs) 10 3 38 rfl rfl (by kernel_rfl) rfl rfl rfl rfl (oneD _) szD hqs2 rfl (by simp [cput, VV.cs, KK.cs, DD.cs, OB.cs, hcs, zeroD, zeroV]) (by simp [cput, VV.cs, KK.cs, DD.cs, OB.cs, hcs, zeroD, zeroV]) (fun _ hZ => cu hZ) ?_ gn)
      intro Ys3 hqs3
      refine gp 11 (some 14) (.bool (q.T.find k).isSome) rfl rfl (cu hqs3) ?_
      simp only [Act.put, n1, n2, n3]
      refine wpAnyH_done (by kernel_rfl) ?_ _
      try simp only [Act.put, n1, n2, n3]
      have SS := hide hqs3
      go_wp2
      have hS3 : Sy w _ h.blocks [hpO h, boxO Ba k.cs, boxO Bb d.cs, boxO Bs2 ((getD q.T k).cs)] := (unhide SS).drew
      clear SS
      have cu : ∀ {X : World} {M : List Ob}, Sy w X h.blocks ([hpO h, boxO Ba k.cs, boxO Bb d.cs, boxO Bs2 ((getD q.T k).cs)] ++ M) → Sy w X h.blocks [hpO h, boxO Ba k.cs, boxO Bb d.cs, boxO Bs2 ((getD q.T k).cs)] := fun h => Sy.left h
      refine wp_region_held_drew (P := Tryz.prog) (S := fun X => Sy w X h.blocks _) (by kernel_rfl) (hS3) (fun hS0 => ?_)
      refine gp 0 (some 31) (.pointer (some ⟨q.b, 0, none⟩)) rfl rfl (hS3) ?_
      simp only [Act.put, n1, n2, n3]
      refine gp 1 (some 32) (.pointer (some ⟨q.b, 0, none⟩)) rfl rfl (hS3) ?_
      simp only [Act.put, n1, n2, n3]
      refine gp 2 (some 33) (.pointer (some ⟨q.b, 6, none⟩)) rfl rfl (hS3) ?_
      simp only [Act.put, n1, n2, n3]
      refine gq 3 (some 34) (.bool q.x) rfl rfl (fun X hX => ex_load1 4 Tryz.isAgg4 rfl rfl ((hX.hp 0 rfl).ob hj).1 rfl) (hS3) ?_
      simp only [Act.put, n1, n2, n3]
      refine gq 4 (some 35) (.agg ((getD q.T k).cs).toArray) rfl rfl (fun X hX => ex_loadN (vs := (getD q.T k).cs) 38 18 rwD szD rfl rfl (hX.hold 3 rfl) rfl rfl) (hS3) ?_
      simp only [Act.put, n1, n2, n3]
      refine gq 5 (some 36) (.agg (d.cs).toArray) rfl rfl (fun X hX => ex_loadN (vs := d.cs) 38 18 rwD szD rfl rfl (hX.hold 2 rfl) rfl rfl) (hS3) ?_
      simp only [Act.put, n1, n2, n3]
      refine gr (rs := [6, 11]) (gcB 6 (some 37) rfl rfl hS3 (HA _ (hT.fr hS3.fr H.low)) id ?_ (galS (v := .agg (zeroD.cs).toArray) 11 (some 15) 38 (zeroD.cs) rfl rfl (by kernel_rfl) rfl (fun w => by kernel_rfl) rfl (Nat.succ_pos _) hS3 (fun _ hZ => cu hZ) ?_ gn))
      · intro Yt1 hqt1
        refine gp 7 (some 30) (.tuple #[(appD q.x (getD q.T k) d).agg, .bool true, .int .i64 (appE (getD q.T k) d)]) rfl rfl (hqt1) ?_
        simp only [Act.put, n1, n2, n3]
        refine gp 8 (some 38) ((appD q.x (getD q.T k) d).agg) rfl rfl (hqt1) ?_
        simp only [Act.put, n1, n2, n3]
        refine gp 9 (some 39) (.bool true) rfl rfl (hqt1) ?_
        simp only [Act.put, n1, n2, n3]
        refine gp 10 (some 40) (.int .i64 (appE (getD q.T k) d)) rfl rfl (hqt1) ?_
        simp only [Act.put, n1, n2, n3]
        refine gr (rs := [11]) (galS (v := .agg (zeroD.cs).toArray) 11 (some 15) 38 (zeroD.cs) rfl rfl (by kernel_rfl) rfl (fun w => by kernel_rfl) rfl (Nat.succ_pos _) hqt1 (fun _ hZ => cu hZ) ?_ gn)
        intro Yt2 Bt2 hEt2 hqt2
        clear hEt2
        simp only [Act.put, n1, n2, n3]
        refine gr (rs := [12]) (gstS (vs := (appD q.x (getD q.T k) d).cs) (new := (appD q.x (getD q.T k) d).cs) 12 4 38 rfl rfl (by kernel_rfl) rfl rfl rfl rfl (oneD _) szD hqt2 rfl (by simp [cput, VV.cs, KK.cs, DD.cs, OB.cs, hcs, zeroD, zeroV]) (by simp [cput, VV.cs, KK.cs, DD.cs, OB.cs, hcs, zeroD, zeroV]) (fun _ hZ => cu hZ) ?_ gn)
        intro Yt3 hqt3
        refine gp 13 (some 16) (.bool true) rfl rfl (cu hqt3) ?_
        simp only [Act.put, n1, n2, n3]
        refine gp 14 (some 17) (.int .i64 (appE (getD q.T k) d)) rfl rfl (cu hqt3) ?_
        simp only [Act.put, n1, n2, n3]
        refine wpAnyH_done (by kernel_rfl) ?_ _
        try simp only [Act.put, n1, n2, n3]
        have SS := hide hqt3
        go_wp2
        have hS5 : Sy w _ h.blocks [hpO h, boxO Ba k.cs, boxO Bb d.cs, boxO Bs2 ((getD q.T k).cs), boxO Bt2 ((appD q.x (getD q.T k) d).cs)] := (unhide SS).drew
        clear SS
        refine wp_region_held_drew (P := Tryz.prog) (S := fun X => Holds X q.b q.cs ∧ Holds X Ba k.cs ∧ Holds X Bt2 ((appD q.x (getD q.T k) d).cs)) (by kernel_rfl) (⟨((hS5.hp 0 rfl).ob hj).1, hS5.hold 1 rfl, hS5.hold 4 rfl⟩) (fun hS0 => ?_)
        refine gp 0 (some 42) (.pointer (some ⟨q.b, 0, none⟩)) rfl rfl (⟨((hS5.hp 0 rfl).ob hj).1, hS5.hold 1 rfl, hS5.hold 4 rfl⟩) ?_
        simp only [Act.put, n1, n2, n3]
        refine gp 1 (some 43) (.pointer (some ⟨q.b, 0, none⟩)) rfl rfl (⟨((hS5.hp 0 rfl).ob hj).1, hS5.hold 1 rfl, hS5.hold 4 rfl⟩) ?_
        simp only [Act.put, n1, n2, n3]
        refine gp 2 (some 44) (.pointer (some ⟨q.b, 7, none⟩)) rfl rfl (⟨((hS5.hp 0 rfl).ob hj).1, hS5.hold 1 rfl, hS5.hold 4 rfl⟩) ?_
        simp only [Act.put, n1, n2, n3]
        refine gq 3 (some 45) (.pointer (some ⟨q.T.t, 0, none⟩)) rfl rfl (fun X hX => ex_load1 97 Tryz.isAgg97 rfl rfl hX.1 rfl) (⟨((hS5.hp 0 rfl).ob hj).1, hS5.hold 1 rfl, hS5.hold 4 rfl⟩) ?_
        simp only [Act.put, n1, n2, n3]
        refine gq 4 (some 46) (.agg k.cs.toArray) rfl rfl (fun X hX => ex_loadN (vs := k.cs) 26 2 rwK szK rfl rfl hX.2.1 rfl rfl) (⟨((hS5.hp 0 rfl).ob hj).1, hS5.hold 1 rfl, hS5.hold 4 rfl⟩) ?_
        simp only [Act.put, n1, n2, n3]
        refine gq 5 (some 47) (.agg ((appD q.x (getD q.T k) d).cs).toArray) rfl rfl (fun X hX => ex_loadN (vs := (appD q.x (getD q.T k) d).cs) 38 18 rwD szD rfl rfl hX.2.2 rfl rfl) (⟨((hS5.hp 0 rfl).ob hj).1, hS5.hold 1 rfl, hS5.hold 4 rfl⟩) ?_
        simp only [Act.put, n1, n2, n3]
        refine gr (rs := [6]) (gc 6 (some 48) rfl rfl (put_ok q.T k (appD q.x (getD q.T k) d) _ ((hS5.hp 0 rfl).ob hj).2.1 (hT.fr hS5.fr H.low).1 hk hlast (fun b hb => by have := (hS5.hp 0 rfl).low_tab hj b hb; omega) hg) ?_ gn)
        rintro e Yp1 ⟨rfl, T', hT2, ht2, hf2, hs2, hPT⟩
        have hI0 := hS5.hp 0 rfl
        have hO := (hI0.ob hj).1.block (hf2.block _ ((hI0.ob hj).1.lt (by rw [ocs_len]; omega)) (hI0.ob hj).2.2)
        have HTI := hide (hI0.ob hj).2.1
        have hqp := Sy.heap hS5 0 rfl (hI0.table hj hT2 ht2 hf2 hs2)
        refine ⟨_, rfl, ⟨hO, hqp.hold 1 rfl, hqp.hold 4 rfl⟩, ?_⟩
        refine wpAnyH_done (by kernel_rfl) ?_ _
        try simp only [Act.put, n1, n2, n3]
        have SS := hide hqp
        go_wp2
        go_ret2
        exact ⟨h.tab j q T', true, rfl, ⟨hb.symm, .inr ⟨rfl, T', rfl, hPT.last, pr_put (unhide HTI) hg hPT⟩⟩, HP.To.end H (unhide SS) rfl⟩
      · intro Yt4 Bt4 hEt4 hqt4
        clear hEt4
        simp only [Act.put, n1, n2, n3]
        refine gr (rs := [6]) (gcB 6 (some 37) rfl rfl hqt4 (HA _ (hT.fr hqt4.fr H.low)) (fun x => cu x) ?_ gn)
        intro Yt5 hqt5
        refine gp 7 (some 30) (.tuple #[(appD q.x (getD q.T k) d).agg, .bool true, .int .i64 (appE (getD q.T k) d)]) rfl rfl (cu hqt5) ?_
        simp only [Act.put, n1, n2, n3]
        refine gp 8 (some 38) ((appD q.x (getD q.T k) d).agg) rfl rfl (cu hqt5) ?_
        simp only [Act.put, n1, n2, n3]
        refine gp 9 (some 39) (.bool true) rfl rfl (cu hqt5) ?_
        simp only [Act.put, n1, n2, n3]
        refine gp 10 (some 40) (.int .i64 (appE (getD q.T k) d)) rfl rfl (cu hqt5) ?_
        simp only [Act.put, n1, n2, n3]
        refine gr (rs := [12]) (gstS (vs := (appD q.x (getD q.T k) d).cs) (new := (appD q.x (getD q.T k) d).cs) 12 4 38 rfl rfl (by kernel_rfl) rfl rfl rfl rfl (oneD _) szD hqt5 rfl (by simp [cput, VV.cs, KK.cs, DD.cs, OB.cs, hcs, zeroD, zeroV]) (by simp [cput, VV.cs, KK.cs, DD.cs, OB.cs, hcs, zeroD, zeroV]) (fun _ hZ => cu hZ) ?_ gn)
        intro Yt6 hqt6
        refine gp 13 (some 16) (.bool true) rfl rfl (cu hqt6) ?_
        simp only [Act.put, n1, n2, n3]
        refine gp 14 (some 17) (.int .i64 (appE (getD q.T k) d)) rfl rfl (cu hqt6) ?_
        simp only [Act.put, n1, n2, n3]
        refine wpAnyH_done (by kernel_rfl) ?_ _
        try simp only [Act.put, n1, n2, n3]
        have SS := hide hqt6
        go_wp2
        have hS5 : Sy w _ h.blocks [hpO h, boxO Ba k.cs, boxO Bb d.cs, boxO Bs2 ((getD q.T k).cs), boxO Bt4 ((appD q.x (getD q.T k) d).cs)] := (unhide SS).drew
        clear SS
        refine wp_region_held_drew (P := Tryz.prog) (S := fun X => Holds X q.b q.cs ∧ Holds X Ba k.cs ∧ Holds X Bt4 ((appD q.x (getD q.T k) d).cs)) (by kernel_rfl) (⟨((hS5.hp 0 rfl).ob hj).1, hS5.hold 1 rfl, hS5.hold 4 rfl⟩) (fun hS0 => ?_)
        refine gp 0 (some 42) (.pointer (some ⟨q.b, 0, none⟩)) rfl rfl (⟨((hS5.hp 0 rfl).ob hj).1, hS5.hold 1 rfl, hS5.hold 4 rfl⟩) ?_
        simp only [Act.put, n1, n2, n3]
        refine gp 1 (some 43) (.pointer (some ⟨q.b, 0, none⟩)) rfl rfl (⟨((hS5.hp 0 rfl).ob hj).1, hS5.hold 1 rfl, hS5.hold 4 rfl⟩) ?_
        simp only [Act.put, n1, n2, n3]
        refine gp 2 (some 44) (.pointer (some ⟨q.b, 7, none⟩)) rfl rfl (⟨((hS5.hp 0 rfl).ob hj).1, hS5.hold 1 rfl, hS5.hold 4 rfl⟩) ?_
        simp only [Act.put, n1, n2, n3]
        refine gq 3 (some 45) (.pointer (some ⟨q.T.t, 0, none⟩)) rfl rfl (fun X hX => ex_load1 97 Tryz.isAgg97 rfl rfl hX.1 rfl) (⟨((hS5.hp 0 rfl).ob hj).1, hS5.hold 1 rfl, hS5.hold 4 rfl⟩) ?_
        simp only [Act.put, n1, n2, n3]
        refine gq 4 (some 46) (.agg k.cs.toArray) rfl rfl (fun X hX => ex_loadN (vs := k.cs) 26 2 rwK szK rfl rfl hX.2.1 rfl rfl) (⟨((hS5.hp 0 rfl).ob hj).1, hS5.hold 1 rfl, hS5.hold 4 rfl⟩) ?_
        simp only [Act.put, n1, n2, n3]
        refine gq 5 (some 47) (.agg ((appD q.x (getD q.T k) d).cs).toArray) rfl rfl (fun X hX => ex_loadN (vs := (appD q.x (getD q.T k) d).cs) 38 18 rwD szD rfl rfl hX.2.2 rfl rfl) (⟨((hS5.hp 0 rfl).ob hj).1, hS5.hold 1 rfl, hS5.hold 4 rfl⟩) ?_
        simp only [Act.put, n1, n2, n3]
        refine gr (rs := [6]) (gc 6 (some 48) rfl rfl (put_ok q.T k (appD q.x (getD q.T k) d) _ ((hS5.hp 0 rfl).ob hj).2.1 (hT.fr hS5.fr H.low).1 hk hlast (fun b hb => by have := (hS5.hp 0 rfl).low_tab hj b hb; omega) hg) ?_ gn)
        rintro e Yp1 ⟨rfl, T', hT2, ht2, hf2, hs2, hPT⟩
        have hI0 := hS5.hp 0 rfl
        have hO := (hI0.ob hj).1.block (hf2.block _ ((hI0.ob hj).1.lt (by rw [ocs_len]; omega)) (hI0.ob hj).2.2)
        have HTI := hide (hI0.ob hj).2.1
        have hqp := Sy.heap hS5 0 rfl (hI0.table hj hT2 ht2 hf2 hs2)
        refine ⟨_, rfl, ⟨hO, hqp.hold 1 rfl, hqp.hold 4 rfl⟩, ?_⟩
        refine wpAnyH_done (by kernel_rfl) ?_ _
        try simp only [Act.put, n1, n2, n3]
        have SS := hide hqp
        go_wp2
        go_ret2
        exact ⟨h.tab j q T', true, rfl, ⟨hb.symm, .inr ⟨rfl, T', rfl, hPT.last, pr_put (unhide HTI) hg hPT⟩⟩, HP.To.end H (unhide SS) rfl⟩
    · intro Ys4 Bs4 hEs4 hqs4
      clear hEs4
      simp only [Act.put, n1, n2, n3]
      refine gr (rs := [5]) (gcB 5 (some 27) rfl rfl hqs4 (get19 q.T k _ ((hqs4.hp 0 rfl).ob hj).2.1 hk) (fun x => cu x) ?_ gn)
      intro Ys5 hqs5
      refine gp 6 (some 21) (.tuple #[(getD q.T k).agg, .bool (q.T.find k).isSome]) rfl rfl (cu hqs5) ?_
      simp only [Act.put, n1, n2, n3]
      refine gp 7 (some 28) ((getD q.T k).agg) rfl rfl (cu hqs5) ?_
      simp only [Act.put, n1, n2, n3]
      refine gp 8 (some 29) (.bool (q.T.find k).isSome) rfl rfl (cu hqs5) ?_
      simp only [Act.put, n1, n2, n3]
      refine gr (rs := [10]) (gstS (vs := (getD q.T k).cs) (new := (getD q.T k).cs) 10 3 38 rfl rfl (by kernel_rfl) rfl rfl rfl rfl (oneD _) szD hqs5 rfl (by simp [cput, VV.cs, KK.cs, DD.cs, OB.cs, hcs, zeroD, zeroV]) (by simp [cput, VV.cs, KK.cs, DD.cs, OB.cs, hcs, zeroD, zeroV]) (fun _ hZ => cu hZ) ?_ gn)
      intro Ys6 hqs6
      refine gp 11 (some 14) (.bool (q.T.find k).isSome) rfl rfl (cu hqs6) ?_
      simp only [Act.put, n1, n2, n3]
      refine wpAnyH_done (by kernel_rfl) ?_ _
      try simp only [Act.put, n1, n2, n3]
      have SS := hide hqs6
      go_wp2
      have hS3 : Sy w _ h.blocks [hpO h, boxO Ba k.cs, boxO Bb d.cs, boxO Bs4 ((getD q.T k).cs)] := (unhide SS).drew
      clear SS
      have cu : ∀ {X : World} {M : List Ob}, Sy w X h.blocks ([hpO h, boxO Ba k.cs, boxO Bb d.cs, boxO Bs4 ((getD q.T k).cs)] ++ M) → Sy w X h.blocks [hpO h, boxO Ba k.cs, boxO Bb d.cs, boxO Bs4 ((getD q.T k).cs)] := fun h => Sy.left h
      refine wp_region_held_drew (P := Tryz.prog) (S := fun X => Sy w X h.blocks _) (by kernel_rfl) (hS3) (fun hS0 => ?_)
      refine gp 0 (some 31) (.pointer (some ⟨q.b, 0, none⟩)) rfl rfl (hS3) ?_
      simp only [Act.put, n1, n2, n3]
      refine gp 1 (some 32) (.pointer (some ⟨q.b, 0, none⟩)) rfl rfl (hS3) ?_
      simp only [Act.put, n1, n2, n3]
      refine gp 2 (some 33) (.pointer (some ⟨q.b, 6, none⟩)) rfl rfl (hS3) ?_
      simp only [Act.put, n1, n2, n3]
      refine gq 3 (some 34) (.bool q.x) rfl rfl (fun X hX => ex_load1 4 Tryz.isAgg4 rfl rfl ((hX.hp 0 rfl).ob hj).1 rfl) (hS3) ?_
      simp only [Act.put, n1, n2, n3]
      refine gq 4 (some 35) (.agg ((getD q.T k).cs).toArray) rfl rfl (fun X hX => ex_loadN (vs := (getD q.T k).cs) 38 18 rwD szD rfl rfl (hX.hold 3 rfl) rfl rfl) (hS3) ?_
      simp only [Act.put, n1, n2, n3]
      refine gq 5 (some 36) (.agg (d.cs).toArray) rfl rfl (fun X hX => ex_loadN (vs := d.cs) 38 18 rwD szD rfl rfl (hX.hold 2 rfl) rfl rfl) (hS3) ?_
      simp only [Act.put, n1, n2, n3]
      refine gr (rs := [6, 11]) (gcB 6 (some 37) rfl rfl hS3 (HA _ (hT.fr hS3.fr H.low)) id ?_ (galS (v := .agg (zeroD.cs).toArray) 11 (some 15) 38 (zeroD.cs) rfl rfl (by kernel_rfl) rfl (fun w => by kernel_rfl) rfl (Nat.succ_pos _) hS3 (fun _ hZ => cu hZ) ?_ gn))
      · intro Yt1 hqt1
        refine gp 7 (some 30) (.tuple #[(appD q.x (getD q.T k) d).agg, .bool true, .int .i64 (appE (getD q.T k) d)]) rfl rfl (hqt1) ?_
        simp only [Act.put, n1, n2, n3]
        refine gp 8 (some 38) ((appD q.x (getD q.T k) d).agg) rfl rfl (hqt1) ?_
        simp only [Act.put, n1, n2, n3]
        refine gp 9 (some 39) (.bool true) rfl rfl (hqt1) ?_
        simp only [Act.put, n1, n2, n3]
        refine gp 10 (some 40) (.int .i64 (appE (getD q.T k) d)) rfl rfl (hqt1) ?_
        simp only [Act.put, n1, n2, n3]
        refine gr (rs := [11]) (galS (v := .agg (zeroD.cs).toArray) 11 (some 15) 38 (zeroD.cs) rfl rfl (by kernel_rfl) rfl (fun w => by kernel_rfl) rfl (Nat.succ_pos _) hqt1 (fun _ hZ => cu hZ) ?_ gn)
        intro Yt2 Bt2 hEt2 hqt2
        clear hEt2
        simp only [Act.put, n1, n2, n3]
        refine gr (rs := [12]) (gstS (vs := (appD q.x (getD q.T k) d).cs) (new := (appD q.x (getD q.T k) d).cs) 12 4 38 rfl rfl (by kernel_rfl) rfl rfl rfl rfl (oneD _) szD hqt2 rfl (by simp [cput, VV.cs, KK.cs, DD.cs, OB.cs, hcs, zeroD, zeroV]) (by simp [cput, VV.cs, KK.cs, DD.cs, OB.cs, hcs, zeroD, zeroV]) (fun _ hZ => cu hZ) ?_ gn)
        intro Yt3 hqt3
        refine gp 13 (some 16) (.bool true) rfl rfl (cu hqt3) ?_
        simp only [Act.put, n1, n2, n3]
        refine gp 14 (some 17) (.int .i64 (appE (getD q.T k) d)) rfl rfl (cu hqt3) ?_
        simp only [Act.put, n1, n2, n3]
        refine wpAnyH_done (by kernel_rfl) ?_ _
        try simp only [Act.put, n1, n2, n3]
        have SS := hide hqt3
        go_wp2
        have hS5 : Sy w _ h.blocks [hpO h, boxO Ba k.cs, boxO Bb d.cs, boxO Bs4 ((getD q.T k).cs), boxO Bt2 ((appD q.x (getD q.T k) d).cs)] := (unhide SS).drew
        clear SS
        refine wp_region_held_drew (P := Tryz.prog) (S := fun X => Holds X q.b q.cs ∧ Holds X Ba k.cs ∧ Holds X Bt2 ((appD q.x (getD q.T k) d).cs)) (by kernel_rfl) (⟨((hS5.hp 0 rfl).ob hj).1, hS5.hold 1 rfl, hS5.hold 4 rfl⟩) (fun hS0 => ?_)
        refine gp 0 (some 42) (.pointer (some ⟨q.b, 0, none⟩)) rfl rfl (⟨((hS5.hp 0 rfl).ob hj).1, hS5.hold 1 rfl, hS5.hold 4 rfl⟩) ?_
        simp only [Act.put, n1, n2, n3]
        refine gp 1 (some 43) (.pointer (some ⟨q.b, 0, none⟩)) rfl rfl (⟨((hS5.hp 0 rfl).ob hj).1, hS5.hold 1 rfl, hS5.hold 4 rfl⟩) ?_
        simp only [Act.put, n1, n2, n3]
        refine gp 2 (some 44) (.pointer (some ⟨q.b, 7, none⟩)) rfl rfl (⟨((hS5.hp 0 rfl).ob hj).1, hS5.hold 1 rfl, hS5.hold 4 rfl⟩) ?_
        simp only [Act.put, n1, n2, n3]
        refine gq 3 (some 45) (.pointer (some ⟨q.T.t, 0, none⟩)) rfl rfl (fun X hX => ex_load1 97 Tryz.isAgg97 rfl rfl hX.1 rfl) (⟨((hS5.hp 0 rfl).ob hj).1, hS5.hold 1 rfl, hS5.hold 4 rfl⟩) ?_
        simp only [Act.put, n1, n2, n3]
        refine gq 4 (some 46) (.agg k.cs.toArray) rfl rfl (fun X hX => ex_loadN (vs := k.cs) 26 2 rwK szK rfl rfl hX.2.1 rfl rfl) (⟨((hS5.hp 0 rfl).ob hj).1, hS5.hold 1 rfl, hS5.hold 4 rfl⟩) ?_
        simp only [Act.put, n1, n2, n3]
        refine gq 5 (some 47) (.agg ((appD q.x (getD q.T k) d).cs).toArray) rfl rfl (fun X hX => ex_loadN (vs := (appD q.x (getD q.T k) d).cs) 38 18 rwD szD rfl rfl hX.2.2 rfl rfl) (⟨((hS5.hp 0 rfl).ob hj).1, hS5.hold 1 rfl, hS5.hold 4 rfl⟩) ?_
        simp only [Act.put, n1, n2, n3]
        refine gr (rs := [6]) (gc 6 (some 48) rfl rfl (put_ok q.T k (appD q.x (getD q.T k) d) _ ((hS5.hp 0 rfl).ob hj).2.1 (hT.fr hS5.fr H.low).1 hk hlast (fun b hb => by have := (hS5.hp 0 rfl).low_tab hj b hb; omega) hg) ?_ gn)
        rintro e Yp1 ⟨rfl, T', hT2, ht2, hf2, hs2, hPT⟩
        have hI0 := hS5.hp 0 rfl
        have hO := (hI0.ob hj).1.block (hf2.block _ ((hI0.ob hj).1.lt (by rw [ocs_len]; omega)) (hI0.ob hj).2.2)
        have HTI := hide (hI0.ob hj).2.1
        have hqp := Sy.heap hS5 0 rfl (hI0.table hj hT2 ht2 hf2 hs2)
        refine ⟨_, rfl, ⟨hO, hqp.hold 1 rfl, hqp.hold 4 rfl⟩, ?_⟩
        refine wpAnyH_done (by kernel_rfl) ?_ _
        try simp only [Act.put, n1, n2, n3]
        have SS := hide hqp
        go_wp2
        go_ret2
        exact ⟨h.tab j q T', true, rfl, ⟨hb.symm, .inr ⟨rfl, T', rfl, hPT.last, pr_put (unhide HTI) hg hPT⟩⟩, HP.To.end H (unhide SS) rfl⟩
      · intro Yt4 Bt4 hEt4 hqt4
        clear hEt4
        simp only [Act.put, n1, n2, n3]
        refine gr (rs := [6]) (gcB 6 (some 37) rfl rfl hqt4 (HA _ (hT.fr hqt4.fr H.low)) (fun x => cu x) ?_ gn)
        intro Yt5 hqt5
        refine gp 7 (some 30) (.tuple #[(appD q.x (getD q.T k) d).agg, .bool true, .int .i64 (appE (getD q.T k) d)]) rfl rfl (cu hqt5) ?_
        simp only [Act.put, n1, n2, n3]
        refine gp 8 (some 38) ((appD q.x (getD q.T k) d).agg) rfl rfl (cu hqt5) ?_
        simp only [Act.put, n1, n2, n3]
        refine gp 9 (some 39) (.bool true) rfl rfl (cu hqt5) ?_
        simp only [Act.put, n1, n2, n3]
        refine gp 10 (some 40) (.int .i64 (appE (getD q.T k) d)) rfl rfl (cu hqt5) ?_
        simp only [Act.put, n1, n2, n3]
        refine gr (rs := [12]) (gstS (vs := (appD q.x (getD q.T k) d).cs) (new := (appD q.x (getD q.T k) d).cs) 12 4 38 rfl rfl (by kernel_rfl) rfl rfl rfl rfl (oneD _) szD hqt5 rfl (by simp [cput, VV.cs, KK.cs, DD.cs, OB.cs, hcs, zeroD, zeroV]) (by simp [cput, VV.cs, KK.cs, DD.cs, OB.cs, hcs, zeroD, zeroV]) (fun _ hZ => cu hZ) ?_ gn)
        intro Yt6 hqt6
        refine gp 13 (some 16) (.bool true) rfl rfl (cu hqt6) ?_
        simp only [Act.put, n1, n2, n3]
        refine gp 14 (some 17) (.int .i64 (appE (getD q.T k) d)) rfl rfl (cu hqt6) ?_
        simp only [Act.put, n1, n2, n3]
        refine wpAnyH_done (by kernel_rfl) ?_ _
        try simp only [Act.put, n1, n2, n3]
        have SS := hide hqt6
        go_wp2
        have hS5 : Sy w _ h.blocks [hpO h, boxO Ba k.cs, boxO Bb d.cs, boxO Bs4 ((getD q.T k).cs), boxO Bt4 ((appD q.x (getD q.T k) d).cs)] := (unhide SS).drew
        clear SS
        refine wp_region_held_drew (P := Tryz.prog) (S := fun X => Holds X q.b q.cs ∧ Holds X Ba k.cs ∧ Holds X Bt4 ((appD q.x (getD q.T k) d).cs)) (by kernel_rfl) (⟨((hS5.hp 0 rfl).ob hj).1, hS5.hold 1 rfl, hS5.hold 4 rfl⟩) (fun hS0 => ?_)
        refine gp 0 (some 42) (.pointer (some ⟨q.b, 0, none⟩)) rfl rfl (⟨((hS5.hp 0 rfl).ob hj).1, hS5.hold 1 rfl, hS5.hold 4 rfl⟩) ?_
        simp only [Act.put, n1, n2, n3]
        refine gp 1 (some 43) (.pointer (some ⟨q.b, 0, none⟩)) rfl rfl (⟨((hS5.hp 0 rfl).ob hj).1, hS5.hold 1 rfl, hS5.hold 4 rfl⟩) ?_
        simp only [Act.put, n1, n2, n3]
        refine gp 2 (some 44) (.pointer (some ⟨q.b, 7, none⟩)) rfl rfl (⟨((hS5.hp 0 rfl).ob hj).1, hS5.hold 1 rfl, hS5.hold 4 rfl⟩) ?_
        simp only [Act.put, n1, n2, n3]
        refine gq 3 (some 45) (.pointer (some ⟨q.T.t, 0, none⟩)) rfl rfl (fun X hX => ex_load1 97 Tryz.isAgg97 rfl rfl hX.1 rfl) (⟨((hS5.hp 0 rfl).ob hj).1, hS5.hold 1 rfl, hS5.hold 4 rfl⟩) ?_
        simp only [Act.put, n1, n2, n3]
        refine gq 4 (some 46) (.agg k.cs.toArray) rfl rfl (fun X hX => ex_loadN (vs := k.cs) 26 2 rwK szK rfl rfl hX.2.1 rfl rfl) (⟨((hS5.hp 0 rfl).ob hj).1, hS5.hold 1 rfl, hS5.hold 4 rfl⟩) ?_
        simp only [Act.put, n1, n2, n3]
        refine gq 5 (some 47) (.agg ((appD q.x (getD q.T k) d).cs).toArray) rfl rfl (fun X hX => ex_loadN (vs := (appD q.x (getD q.T k) d).cs) 38 18 rwD szD rfl rfl hX.2.2 rfl rfl) (⟨((hS5.hp 0 rfl).ob hj).1, hS5.hold 1 rfl, hS5.hold 4 rfl⟩) ?_
        simp only [Act.put, n1, n2, n3]
        refine gr (rs := [6]) (gc 6 (some 48) rfl rfl (put_ok q.T k (appD q.x (getD q.T k) d) _ ((hS5.hp 0 rfl).ob hj).2.1 (hT.fr hS5.fr H.low).1 hk hlast (fun b hb => by have := (hS5.hp 0 rfl).low_tab hj b hb; omega) hg) ?_ gn)
        rintro e Yp1 ⟨rfl, T', hT2, ht2, hf2, hs2, hPT⟩
        have hI0 := hS5.hp 0 rfl
        have hO := (hI0.ob hj).1.block (hf2.block _ ((hI0.ob hj).1.lt (by rw [ocs_len]; omega)) (hI0.ob hj).2.2)
        have HTI := hide (hI0.ob hj).2.1
        have hqp := Sy.heap hS5 0 rfl (hI0.table hj hT2 ht2 hf2 hs2)
        refine ⟨_, rfl, ⟨hO, hqp.hold 1 rfl, hqp.hold 4 rfl⟩, ?_⟩
        refine wpAnyH_done (by kernel_rfl) ?_ _
        try simp only [Act.put, n1, n2, n3]
        have SS := hide hqp
        go_wp2
        go_ret2
        exact ⟨h.tab j q T', true, rfl, ⟨hb.symm, .inr ⟨rfl, T', rfl, hPT.last, pr_put (unhide HTI) hg hPT⟩⟩, HP.To.end H (unhide SS) rfl⟩
