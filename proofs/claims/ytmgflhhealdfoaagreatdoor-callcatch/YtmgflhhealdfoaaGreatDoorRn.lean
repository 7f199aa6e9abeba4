import Derived.Test.YtmgflhhealdfoaaGreatDoorRm
set_option linter.all false
namespace Go.Proofs.YtmgflhhealdfoaaGreatDoor
set_option maxHeartbeats 1000000
section
open Go Go.Proofs Go.Maps Go.RowKit FM
attribute [local go_sem] mm_GetOwnProperty mm_DefineOwnProperty mm_Get ta_caller ta_builder
theorem HP.To.last {h h' : HP} {w Y : World} {L : List Ob} (H : h.Is w) (S : Sy w Y h.blocks (L ++ [hpO h'])) (hb : h'.b = h.b) : h.To h' w Y := HP.To.end H S.front hb
set_option maxHeartbeats 2000000 in
set_option maxRecDepth 100000 in
theorem do8 (B hb : Nat) (sf : Int) (th : VV) (ar : Value) (tg : VV) (rs : List VV) (t b d : Int) (k : KK) (v : VV) (e : DD) (x g : Bool) (i : Nat) (vi : VV) (w : World) (hF : Holds w B (frC hb sf th ar tg rs)) (hlt : B < w.heap.size) (hi : rs[i]? = some vi) (hi16 : i < 16) : Calls Tryz.prog 173 #[.pointer (some ⟨B, 0, none⟩), OP.agg ⟨8, t, (i : Nat), b, d, k, v, e, x, g⟩] w fun e w' => ∃ Bt, e = .returned (.tuple #[zeroV.agg, thrV Bt]) ∧ Holds w' Bt (tcs 1 vi) ∧ w.heap.size ≤ Bt ∧ Below w.heap.size w w' := by
  have SS := hide (Sy.nil w [])
  simp only [pagg, vagg] at *
  have HF : Hid (∀ X, Below w.heap.size w X → Holds X B (frC hb sf th ar tg rs)) := hide (fun X k => hF.block (k.block B hlt))
  have HI := hide hi16
  have hi := hide hi
  clear hF hi16
  go_enter Tryz.func173, Tryz.ntmps173
  go_wp2_with (first | go_skip | ((with_reducible show wpList _ _ _ _ _ _); first | (refine zB 40 (OP.cs ⟨8, t, (i : Nat), b, d, k, v, e, x, g⟩) (by rfl) rfl rfl rfl SS ?_; clear SS; intro X1 B1 SS; simp only [Act.put, n1, n2, n3]) | (refine zA 24 (zeroV.cs) (by rfl) rfl SS ?_; clear SS; intro X2 B2 SS; simp only [Act.put, n1, n2, n3]) | (refine z1 3 Tryz.isAgg3 0 (by rfl) rfl rfl SS rfl rfl ?_; simp only [Act.put, n1, n2, n3])))
  have hS : Sy w _ [] [boxO B1 (OP.cs ⟨8, t, (i : Nat), b, d, k, v, e, x, g⟩), boxO B2 zeroV.cs] := (unhide SS).drew
  clear SS
  have cu : ∀ {X : World} {M : List Ob}, Sy w X [] ([boxO B1 (OP.cs ⟨8, t, (i : Nat), b, d, k, v, e, x, g⟩)] ++ M) → Sy w X [] [boxO B1 (OP.cs ⟨8, t, (i : Nat), b, d, k, v, e, x, g⟩)] := fun h => Sy.left h
  refine wp_region_held_drew (P := Tryz.prog) (S := fun X => Sy w X [] [boxO B1 (OP.cs ⟨8, t, (i : Nat), b, d, k, v, e, x, g⟩)]) (by kernel_rfl) (cu hS) (fun hS0 => ?_)
  refine gq 0 (some 49) (.agg zeroV.cs.toArray) rfl rfl (fun X hX => ex_zeroV rfl) (cu hS) ?_
  simp only [Act.put, n1, n2, n3]
  refine gp 1 (some 50) (.pointer (some ⟨B, 0, none⟩)) rfl rfl (cu hS) ?_
  simp only [Act.put, n1, n2, n3]
  refine gp 2 (some 51) (.pointer (some ⟨B1, 2, none⟩)) rfl rfl (cu hS) ?_
  simp only [Act.put, n1, n2, n3]
  refine gq 3 (some 52) (.int .i64 (i : Nat)) rfl rfl (fun X hX => ex_load1 3 Tryz.isAgg3 rfl rfl (hX.hold 0 rfl) rfl) (cu hS) ?_
  simp only [Act.put, n1, n2, n3]
  refine gp 4 (some 53) (.pointer (some ⟨B, 0, none⟩)) rfl rfl (cu hS) ?_
  simp only [Act.put, n1, n2, n3]
  refine gp 5 (some 54) (.pointer (some ⟨B, 13, none⟩)) rfl rfl (cu hS) ?_
  simp only [Act.put, n1, n2, n3]
  refine gq 6 (some 55) (.pointer (some ⟨B, 13 + i * 5, none⟩)) rfl rfl (fun X hX => ex_ixR i rfl rfl rfl (unhide HI)) (cu hS) ?_
  simp only [Act.put, n1, n2, n3]
  refine gq 7 (some 56) (.agg vi.cs.toArray) rfl rfl (fun X hX => ex_loadN (vs := vi.cs) 24 5 rwV szV rfl rfl (unhide HF _ hX.fr.below) (fr_at (unhide hi)) rfl) (cu hS) ?_
  simp only [Act.put, n1, n2, n3]
  refine gq 8 (some 57) (.agg (tcs 1 vi).toArray) rfl rfl (fun X hX => ex_bT 1 vi rfl rfl rfl) (cu hS) ?_
  simp only [Act.put, n1, n2, n3]
  refine gr (rs := [9, 11]) (gbxS 9 (some 58) 123 (tcs 1 vi) rfl rfl (by kernel_rfl) rfl rfl rfl (Nat.succ_pos _) hS (fun _ hZ => cu hZ) ?_ (gstS (vs := zeroV.cs) (new := zeroV.cs) 11 1 24 rfl rfl (by kernel_rfl) rfl rfl rfl rfl (oneV _) szV hS rfl (by simp [cput, VV.cs, KK.cs, DD.cs, OB.cs, hcs, zeroD, zeroV]) (by simp [cput, VV.cs, KK.cs, DD.cs, OB.cs, hcs, zeroD, zeroV]) (fun _ hZ => cu hZ) ?_ gn))
  · intro Yt1 Bt1 hEt1 hqt1
    clear hEt1
    refine gp 10 (some 59) (.iface 121 (.pointer (some ⟨Bt1, 0, none⟩))) rfl rfl (cu hqt1) ?_
    simp only [Act.put, n1, n2, n3]
    refine gr (rs := [11]) (gstS (vs := zeroV.cs) (new := zeroV.cs) 11 1 24 rfl rfl (by kernel_rfl) rfl rfl rfl rfl (oneV _) szV hqt1 rfl (by simp [cput, VV.cs, KK.cs, DD.cs, OB.cs, hcs, zeroD, zeroV]) (by simp [cput, VV.cs, KK.cs, DD.cs, OB.cs, hcs, zeroD, zeroV]) (fun _ hZ => cu hZ) ?_ gn)
    intro Yt2 hqt2
    refine gp 12 (some 5) (.iface 121 (.pointer (some ⟨Bt1, 0, none⟩))) rfl rfl (cu hqt2) ?_
    simp only [Act.put, n1, n2, n3]
    refine wpAnyH_done (by kernel_rfl) ?_ _
    try simp only [Act.put, n1, n2, n3]
    have SS := hide hqt2
    go_wp2
    refine bodyPost_ret (res_ct rwV szV rfl rfl rfl ((unhide SS).hold 1 rfl) rfl) rfl ?_
    exact ⟨Bt1, rfl, (unhide SS).hold 2 rfl, ((unhide SS).lo _ (List.mem_of_getElem? (i := 2) rfl) _ (List.mem_singleton.2 rfl)).elim (fun h => by cases h) id, (unhide SS).fr.below⟩
  · intro Yt3 hqt3
    simp only [Act.put, n1, n2, n3]
    refine gr (rs := [9]) (gbxS 9 (some 58) 123 (tcs 1 vi) rfl rfl (by kernel_rfl) rfl rfl rfl (Nat.succ_pos _) hqt3 (fun _ hZ => cu hZ) ?_ gn)
    intro Yt4 Bt4 hEt4 hqt4
    clear hEt4
    refine gp 10 (some 59) (.iface 121 (.pointer (some ⟨Bt4, 0, none⟩))) rfl rfl (cu hqt4) ?_
    simp only [Act.put, n1, n2, n3]
    refine gp 12 (some 5) (.iface 121 (.pointer (some ⟨Bt4, 0, none⟩))) rfl rfl (cu hqt4) ?_
    simp only [Act.put, n1, n2, n3]
    refine wpAnyH_done (by kernel_rfl) ?_ _
    try simp only [Act.put, n1, n2, n3]
    have SS := hide hqt4
    go_wp2
    refine bodyPost_ret (res_ct rwV szV rfl rfl rfl ((unhide SS).hold 1 rfl) rfl) rfl ?_
    exact ⟨Bt4, rfl, (unhide SS).hold 2 rfl, ((unhide SS).lo _ (List.mem_of_getElem? (i := 2) rfl) _ (List.mem_singleton.2 rfl)).elim (fun h => by cases h) id, (unhide SS).fr.below⟩
set_option maxHeartbeats 2000000 in
set_option maxRecDepth 100000 in
theorem enter10 (h : HP) (B : Nat) (sf : Int) (th : VV) (ar : Value) (tg : VV) (rs : List VV) (t b d : Int) (k : KK) (v : VV) (e : DD) (x g : Bool) (i j : Nat) (w : World) (H : h.Is w) (hF : Holds w B (frC h.b sf th ar tg rs)) (hlt : B < w.heap.size) (hout : B ∉ h.blocks) (V : VV) (Q : HP → Prop) (hC : ∀ X, h.To h w X → Calls Tryz.prog 20 #[.pointer (some ⟨h.b, 0, none⟩), .int .i64 ((j : Int) + 1), k.agg, (refV ((j : Int) + 1)).agg] X fun e w' => e = .returned (.tuple #[V.agg, .nilIface]) ∧ ∃ h1, Q h1 ∧ h.To h1 X w') : Calls Tryz.prog 179 #[.pointer (some ⟨B, 0, none⟩), OP.agg ⟨10, t, (i : Nat), b, d, k, v, e, x, g⟩, (refV ((j : Int) + 1)).agg] w fun e w' => e = .returned (.tuple #[V.agg, .nilIface]) ∧ ∃ h1, Q h1 ∧ h.To h1 w w' := by
  have SS := hide H.start
  have HC := hide hC
  simp only [pagg, kagg, vagg] at *
  have HF : Hid (∀ X, Fr w X h.blocks → Holds X B (frC h.b sf th ar tg rs)) := hide (fun X k => hF.block (k.block B hlt hout))
  clear hF hC
  go_enter Tryz.func179, Tryz.ntmps179
  go_wp2_with (first | go_skip | ((with_reducible show wpList _ _ _ _ _ _); first | (refine zB 40 (OP.cs ⟨10, t, (i : Nat), b, d, k, v, e, x, g⟩) (by rfl) rfl rfl rfl SS ?_; clear SS; intro X1 B1 SS; simp only [Act.put, n1, n2, n3]) | (refine zB 24 ((refV ((j : Int) + 1)).cs) (by rfl) rfl rfl rfl SS ?_; clear SS; intro X2 B2 SS; simp only [Act.put, n1, n2, n3]) | (refine zA 24 (zeroV.cs) (by rfl) rfl SS ?_; clear SS; intro X3 B3 SS; simp only [Act.put, n1, n2, n3]) | (refine z1 3 Tryz.isAgg3 1 (by rfl) rfl rfl SS rfl rfl ?_; simp only [Act.put, n1, n2, n3])))
  have hS : Sy w _ h.blocks [boxO B1 (OP.cs ⟨10, t, (i : Nat), b, d, k, v, e, x, g⟩), boxO B2 (refV ((j : Int) + 1)).cs, boxO B3 zeroV.cs, hpO h] := (Sy.back (unhide SS)).drew
  clear SS
  have cu : ∀ {X : World} {M : List Ob}, Sy w X h.blocks ([boxO B1 (OP.cs ⟨10, t, (i : Nat), b, d, k, v, e, x, g⟩), boxO B2 (refV ((j : Int) + 1)).cs] ++ M) → Sy w X h.blocks [boxO B1 (OP.cs ⟨10, t, (i : Nat), b, d, k, v, e, x, g⟩), boxO B2 (refV ((j : Int) + 1)).cs] := fun h => Sy.left h
  refine wp_region_held_drew (P := Tryz.prog) (S := fun X => Sy w X h.blocks [boxO B1 (OP.cs ⟨10, t, (i : Nat), b, d, k, v, e, x, g⟩), boxO B2 (refV ((j : Int) + 1)).cs]) (by kernel_rfl) (cu hS) (fun hS0 => ?_)
  refine gp 0 (some 15) (.pointer (some ⟨B, 0, none⟩)) rfl rfl (cu hS) ?_
  simp only [Act.put, n1, n2, n3]
  refine gp 1 (some 16) (.pointer (some ⟨B, 0, none⟩)) rfl rfl (cu hS) ?_
  simp only [Act.put, n1, n2, n3]
  refine gp 2 (some 17) (.pointer (some ⟨B, 0, none⟩)) rfl rfl (cu hS) ?_
  simp only [Act.put, n1, n2, n3]
  refine gq 3 (some 18) (.pointer (some ⟨h.b, 0, none⟩)) rfl rfl (fun X hX => ex_load1 28 Tryz.isAgg28 rfl rfl (unhide HF _ hX.fr) rfl) (cu hS) ?_
  simp only [Act.put, n1, n2, n3]
  refine gp 4 (some 19) (.pointer (some ⟨B2, 4, none⟩)) rfl rfl (cu hS) ?_
  simp only [Act.put, n1, n2, n3]
  refine gq 5 (some 20) (.int .i64 ((j : Int) + 1)) rfl rfl (fun X hX => ex_load1 3 Tryz.isAgg3 rfl rfl (hX.hold 1 rfl) rfl) (cu hS) ?_
  simp only [Act.put, n1, n2, n3]
  refine gp 6 (some 21) (.pointer (some ⟨B1, 5, none⟩)) rfl rfl (cu hS) ?_
  simp only [Act.put, n1, n2, n3]
  refine gq 7 (some 22) (.agg k.cs.toArray) rfl rfl (fun X hX => ex_loadN (vs := k.cs) 26 2 rwK szK rfl rfl (hX.hold 0 rfl) rfl rfl) (cu hS) ?_
  simp only [Act.put, n1, n2, n3]
  refine gq 8 (some 23) (.agg (refV ((j : Int) + 1)).cs.toArray) rfl rfl (fun X hX => ex_loadN (vs := (refV ((j : Int) + 1)).cs) 24 5 rwV szV rfl rfl (hX.hold 1 rfl) rfl rfl) (cu hS) ?_
  simp only [Act.put, n1, n2, n3]
  refine gr (rs := [9]) (gc 9 (some 24) rfl rfl (unhide HC _ (HP.To.last H (L := [_, _, _]) hS rfl)) ?_ gn)
  rintro e Yt1 ⟨rfl, h1, hQ, Tt1⟩
  have hb1 : h1.b = h.b := Tt1.hb
  have hqt1 := Sy.heap hS 3 rfl Tt1
  clear Tt1
  refine ⟨_, rfl, cu hqt1, ?_⟩
  refine gp 10 (some 25) (V.agg) rfl rfl (cu hqt1) ?_
  simp only [Act.put, n1, n2, n3]
  refine gp 11 (some 26) (.nilIface) rfl rfl (cu hqt1) ?_
  simp only [Act.put, n1, n2, n3]
  refine gr (rs := [12]) (gstS (vs := V.cs) (new := V.cs) 12 2 24 rfl rfl (by kernel_rfl) rfl rfl rfl rfl (oneV _) szV hqt1 rfl (by simp [cput, VV.cs, KK.cs, DD.cs, OB.cs, hcs, zeroD, zeroV]) (by simp [cput, VV.cs, KK.cs, DD.cs, OB.cs, hcs, zeroD, zeroV]) (fun _ hZ => cu hZ) ?_ gn)
  intro Yt2 hqt2
  refine gp 13 (some 7) (.nilIface) rfl rfl (cu hqt2) ?_
  simp only [Act.put, n1, n2, n3]
  refine wpAnyH_done (by kernel_rfl) ?_ _
  try simp only [Act.put, n1, n2, n3]
  have SS := hide (Sy.front (L := [boxO B1 (OP.cs ⟨10, t, (i : Nat), b, d, k, v, e, x, g⟩), boxO B2 (refV ((j : Int) + 1)).cs, boxO B3 (V.cs)]) hqt2)
  go_wp2
  refine bodyPost_ret (res_ct rwV szV rfl rfl rfl ((unhide SS).hold 3 rfl) rfl) rfl ?_
  exact ⟨rfl, h1, hQ, HP.To.end H (unhide SS) hb1⟩
set_option maxHeartbeats 2000000 in
set_option maxRecDepth 100000 in
theorem described_t (B hb : Nat) (sf : Int) (th : VV) (ar : Value) (tg : VV) (rs : List VV) (t a d : Int) (k : KK) (v : VV) (e : DD) (g : Bool) (n : Nat) (vb : VV) (w : World) (hF : Holds w B (frC hb sf th ar tg rs)) (hlt : B < w.heap.size) (hn : rs[n]? = some vb) (hn16 : n < 16) : Calls Tryz.prog 185 #[.pointer (some ⟨B, 0, none⟩), OP.agg ⟨12, t, a, (n : Nat), d, k, v, e, true, g⟩] w fun e' w' => e' = .returned ((DD.mk vb e.g e.s e.w e.e e.c).agg) ∧ Below w.heap.size w w' := by
  have SS := hide (Sy.nil w [])
  simp only [pagg, dagg] at *
  have HF : Hid (∀ X, Below w.heap.size w X → Holds X B (frC hb sf th ar tg rs)) := hide (fun X k => hF.block (k.block B hlt))
  have HN := hide hn16
  have hn := hide hn
  clear hF hn16
  go_enter Tryz.func185, Tryz.ntmps185
  go_wp2_with (first | go_skip | ((with_reducible show wpList _ _ _ _ _ _); first | (refine zB 40 (OP.cs ⟨12, t, a, (n : Nat), d, k, v, e, true, g⟩) (by rfl) rfl rfl rfl SS ?_; clear SS; intro X1 B1 SS; simp only [Act.put, n1, n2, n3]) | (refine zA 38 (zeroD.cs) (by rfl) rfl SS ?_; clear SS; intro X2 B2 SS; simp only [Act.put, n1, n2, n3]) | (refine zL (e.cs) 38 18 0 rwD szD (by rfl) rfl rfl SS rfl rfl rfl ?_; simp only [Act.put, n1, n2, n3]) | (refine zA 38 (zeroD.cs) (by rfl) rfl SS ?_; clear SS; intro X3 B3 SS; simp only [Act.put, n1, n2, n3]) | (refine zS (e.cs) 2 38 (by rfl) rfl rfl rfl rfl (oneD _) szD SS rfl ?_; clear SS; intro Xy SS; simp only [Act.put, n1, n2, n3]) | (refine z1 4 Tryz.isAgg4 0 (by rfl) rfl rfl SS rfl rfl ?_; simp only [Act.put, n1, n2, n3])))
  have hS : Sy w _ [] [boxO B1 (OP.cs ⟨12, t, a, (n : Nat), d, k, v, e, true, g⟩), boxO _ zeroD.cs, boxO B2 e.cs] := (unhide SS).drew
  clear SS
  have cu : ∀ {X : World} {M : List Ob}, Sy w X [] ([boxO B1 (OP.cs ⟨12, t, a, (n : Nat), d, k, v, e, true, g⟩)] ++ M) → Sy w X [] [boxO B1 (OP.cs ⟨12, t, a, (n : Nat), d, k, v, e, true, g⟩)] := fun h => Sy.left h
  refine wp_region_held_drew (P := Tryz.prog) (S := fun X => Sy w X [] [boxO B1 (OP.cs ⟨12, t, a, (n : Nat), d, k, v, e, true, g⟩)]) (by kernel_rfl) (cu hS) (fun hS0 => ?_)
  refine gp 0 (some 10) (.pointer (some ⟨B, 0, none⟩)) rfl rfl (cu hS) ?_
  simp only [Act.put, n1, n2, n3]
  refine gp 1 (some 11) (.pointer (some ⟨B1, 3, none⟩)) rfl rfl (cu hS) ?_
  simp only [Act.put, n1, n2, n3]
  refine gq 2 (some 12) (.int .i64 (n : Nat)) rfl rfl (fun X hX => ex_load1 3 Tryz.isAgg3 rfl rfl (hX.hold 0 rfl) rfl) (cu hS) ?_
  simp only [Act.put, n1, n2, n3]
  refine gp 3 (some 13) (.pointer (some ⟨B, 0, none⟩)) rfl rfl (cu hS) ?_
  simp only [Act.put, n1, n2, n3]
  refine gp 4 (some 14) (.pointer (some ⟨B, 13, none⟩)) rfl rfl (cu hS) ?_
  simp only [Act.put, n1, n2, n3]
  refine gq 5 (some 15) (.pointer (some ⟨B, 13 + n * 5, none⟩)) rfl rfl (fun X hX => ex_ixR n rfl rfl rfl (unhide HN)) (cu hS) ?_
  simp only [Act.put, n1, n2, n3]
  refine gq 6 (some 16) (.agg vb.cs.toArray) rfl rfl (fun X hX => ex_loadN (vs := vb.cs) 24 5 rwV szV rfl rfl (unhide HF _ hX.fr.below) (fr_at (unhide hn)) rfl) (cu hS) ?_
  simp only [Act.put, n1, n2, n3]
  refine gp 7 (some 17) (.pointer (some ⟨B2, 0, none⟩)) rfl rfl (cu hS) ?_
  simp only [Act.put, n1, n2, n3]
  refine gr (rs := [8]) (gstS (vs := vb.cs) (new := (DD.mk vb e.g e.s e.w e.e e.c).cs) 8 2 24 rfl rfl (by kernel_rfl) rfl rfl rfl rfl (oneV _) szV hS rfl (by simp [cput, VV.cs, KK.cs, DD.cs, OB.cs, hcs, zeroD, zeroV]) (by simp [cput, VV.cs, KK.cs, DD.cs, OB.cs, hcs, zeroD, zeroV]) (fun _ hZ => cu hZ) ?_ gn)
  intro Yt1 hqt1
  refine wpAnyH_done (by kernel_rfl) ?_ _
  try simp only [Act.put, n1, n2, n3]
  have SS := hide hqt1
  go_wp2_with (first | go_skip | ((with_reducible show wpList _ _ _ _ _ _); first | (refine zL ((DD.mk vb e.g e.s e.w e.e e.c).cs) 38 18 2 rwD szD (by rfl) rfl rfl SS rfl rfl rfl ?_; simp only [Act.put, n1, n2, n3]) | (refine zS ((DD.mk vb e.g e.s e.w e.e e.c).cs) 1 38 (by rfl) rfl rfl rfl rfl (oneD _) szD SS rfl ?_; clear SS; intro Xz SS; simp only [Act.put, n1, n2, n3])))
  refine ret_c rwD szD rfl rfl rfl ((unhide SS).hold 1 rfl) rfl ?_
  exact ⟨rfl, (unhide SS).fr.below⟩
set_option maxHeartbeats 2000000 in
set_option maxRecDepth 100000 in
theorem enter12 (h : HP) (B : Nat) (sf : Int) (th : VV) (ar : Value) (tg : VV) (rs : List VV) (t d : Int) (k : KK) (v : VV) (e : DD) (g : Bool) (i j n : Nat) (vb : VV) (w : World) (H : h.Is w) (hF : Holds w B (frC h.b sf th ar tg rs)) (hlt : B < w.heap.size) (hout : B ∉ h.blocks) (y : Bool) (Q : HP → Prop) (hC : ∀ X, h.To h w X → Calls Tryz.prog 15 #[.pointer (some ⟨h.b, 0, none⟩), .int .i64 ((j : Int) + 1), k.agg, (DD.mk vb e.g e.s e.w e.e e.c).agg] X fun e w' => e = .returned (.tuple #[.bool y, .nilIface]) ∧ ∃ h1, Q h1 ∧ h.To h1 X w') (hn : rs[n]? = some vb) (hn16 : n < 16) : Calls Tryz.prog 179 #[.pointer (some ⟨B, 0, none⟩), OP.agg ⟨12, t, (i : Nat), (n : Nat), d, k, v, e, true, g⟩, (refV ((j : Int) + 1)).agg] w fun e w' => e = .returned (.tuple #[(boolV y).agg, .nilIface]) ∧ ∃ h1, Q h1 ∧ h.To h1 w w' := by
  have SS := hide H.start
  have HC := hide hC
  have HD : Hid (∀ X, h.To h w X → _) := hide (fun X T => described_t B h.b sf th ar tg rs t (i : Nat) d k v e g n vb X (hF.block (T.fr.block B hlt hout)) (Nat.lt_of_lt_of_le hlt T.fr.size) hn hn16)
  simp only [pagg, kagg, vagg, dagg] at *
  have HF : Hid (∀ X, Fr w X h.blocks → Holds X B (frC h.b sf th ar tg rs)) := hide (fun X k => hF.block (k.block B hlt hout))
  clear hF hC
  go_enter Tryz.func179, Tryz.ntmps179
  go_wp2_with (first | go_skip | ((with_reducible show wpList _ _ _ _ _ _); first | (refine zB 40 (OP.cs ⟨12, t, (i : Nat), (n : Nat), d, k, v, e, true, g⟩) (by rfl) rfl rfl rfl SS ?_; clear SS; intro X1 B1 SS; simp only [Act.put, n1, n2, n3]) | (refine zB 24 ((refV ((j : Int) + 1)).cs) (by rfl) rfl rfl rfl SS ?_; clear SS; intro X2 B2 SS; simp only [Act.put, n1, n2, n3]) | (refine zA 24 (zeroV.cs) (by rfl) rfl SS ?_; clear SS; intro X3 B3 SS; simp only [Act.put, n1, n2, n3]) | (refine z1 3 Tryz.isAgg3 1 (by rfl) rfl rfl SS rfl rfl ?_; simp only [Act.put, n1, n2, n3])))
  have hS : Sy w _ h.blocks [boxO B1 (OP.cs ⟨12, t, (i : Nat), (n : Nat), d, k, v, e, true, g⟩), boxO B2 (refV ((j : Int) + 1)).cs, boxO B3 zeroV.cs, hpO h] := (Sy.back (unhide SS)).drew
  clear SS
  have cu : ∀ {X : World} {M : List Ob}, Sy w X h.blocks ([boxO B1 (OP.cs ⟨12, t, (i : Nat), (n : Nat), d, k, v, e, true, g⟩), boxO B2 (refV ((j : Int) + 1)).cs] ++ M) → Sy w X h.blocks [boxO B1 (OP.cs ⟨12, t, (i : Nat), (n : Nat), d, k, v, e, true, g⟩), boxO B2 (refV ((j : Int) + 1)).cs] := fun h => Sy.left h
  refine wp_region_held_drew (P := Tryz.prog) (S := fun X => Sy w X h.blocks [boxO B1 (OP.cs ⟨12, t, (i : Nat), (n : Nat), d, k, v, e, true, g⟩), boxO B2 (refV ((j : Int) + 1)).cs]) (by kernel_rfl) (cu hS) (fun hS0 => ?_)
  refine gp 0 (some 53) (.pointer (some ⟨B, 0, none⟩)) rfl rfl (cu hS) ?_
  simp only [Act.put, n1, n2, n3]
  refine gp 1 (some 54) (.pointer (some ⟨B, 0, none⟩)) rfl rfl (cu hS) ?_
  simp only [Act.put, n1, n2, n3]
  refine gp 2 (some 55) (.pointer (some ⟨B, 0, none⟩)) rfl rfl (cu hS) ?_
  simp only [Act.put, n1, n2, n3]
  refine gq 3 (some 56) (.pointer (some ⟨h.b, 0, none⟩)) rfl rfl (fun X hX => ex_load1 28 Tryz.isAgg28 rfl rfl (unhide HF _ hX.fr) rfl) (cu hS) ?_
  simp only [Act.put, n1, n2, n3]
  refine gp 4 (some 57) (.pointer (some ⟨B2, 4, none⟩)) rfl rfl (cu hS) ?_
  simp only [Act.put, n1, n2, n3]
  refine gq 5 (some 58) (.int .i64 ((j : Int) + 1)) rfl rfl (fun X hX => ex_load1 3 Tryz.isAgg3 rfl rfl (hX.hold 1 rfl) rfl) (cu hS) ?_
  simp only [Act.put, n1, n2, n3]
  refine gp 6 (some 59) (.pointer (some ⟨B1, 5, none⟩)) rfl rfl (cu hS) ?_
  simp only [Act.put, n1, n2, n3]
  refine gq 7 (some 60) (.agg k.cs.toArray) rfl rfl (fun X hX => ex_loadN (vs := k.cs) 26 2 rwK szK rfl rfl (hX.hold 0 rfl) rfl rfl) (cu hS) ?_
  simp only [Act.put, n1, n2, n3]
  refine gp 8 (some 61) (.pointer (some ⟨B, 0, none⟩)) rfl rfl (cu hS) ?_
  simp only [Act.put, n1, n2, n3]
  refine gq 9 (some 62) (.agg (OP.cs ⟨12, t, (i : Nat), (n : Nat), d, k, v, e, true, g⟩).toArray) rfl rfl (fun X hX => ex_loadN (vs := OP.cs ⟨12, t, (i : Nat), (n : Nat), d, k, v, e, true, g⟩) 40 32 rwP_ szP_ rfl rfl (hX.hold 0 rfl) rfl rfl) (cu hS) ?_
  simp only [Act.put, n1, n2, n3]
  refine gr (rs := [10]) (gcB 10 (some 63) rfl rfl hS (unhide HD _ (HP.To.last H (L := [_, _, _]) hS rfl)) (fun x => cu x) ?_ gn)
  intro Yt1 hqt1
  simp only [Act.put, n1, n2, n3]
  refine gr (rs := [11]) (gc 11 (some 64) rfl rfl (unhide HC _ (HP.To.last H (L := [_, _, _]) hqt1 rfl)) ?_ gn)
  rintro e Yt2 ⟨rfl, h1, hQ, Tt2⟩
  have hb1 : h1.b = h.b := Tt2.hb
  have hqt2 := Sy.heap hqt1 3 rfl Tt2
  clear Tt2
  refine ⟨_, rfl, cu hqt2, ?_⟩
  refine gp 12 (some 65) (.bool y) rfl rfl (cu hqt2) ?_
  simp only [Act.put, n1, n2, n3]
  refine gp 13 (some 66) (.nilIface) rfl rfl (cu hqt2) ?_
  simp only [Act.put, n1, n2, n3]
  refine gr (rs := [14]) (gcB 14 (some 67) rfl rfl hqt2 (told_ok y _) (fun x => cu x) ?_ gn)
  intro Yt3 hqt3
  refine gp 15 (some 68) ((boolV y).agg) rfl rfl (cu hqt3) ?_
  simp only [Act.put, n1, n2, n3]
  refine gp 16 (some 69) (.nilIface) rfl rfl (cu hqt3) ?_
  simp only [Act.put, n1, n2, n3]
  refine gr (rs := [17]) (gstS (vs := (boolV y).cs) (new := (boolV y).cs) 17 2 24 rfl rfl (by kernel_rfl) rfl rfl rfl rfl (oneV _) szV hqt3 rfl (by simp [cput, VV.cs, KK.cs, DD.cs, OB.cs, hcs, zeroD, zeroV]) (by simp [cput, VV.cs, KK.cs, DD.cs, OB.cs, hcs, zeroD, zeroV]) (fun _ hZ => cu hZ) ?_ gn)
  intro Yt4 hqt4
  refine gp 18 (some 7) (.nilIface) rfl rfl (cu hqt4) ?_
  simp only [Act.put, n1, n2, n3]
  refine wpAnyH_done (by kernel_rfl) ?_ _
  try simp only [Act.put, n1, n2, n3]
  have SS := hide (Sy.front (L := [boxO B1 (OP.cs ⟨12, t, (i : Nat), (n : Nat), d, k, v, e, true, g⟩), boxO B2 (refV ((j : Int) + 1)).cs, boxO B3 ((boolV y).cs)]) hqt4)
  go_wp2
  refine bodyPost_ret (res_ct rwV szV rfl rfl rfl ((unhide SS).hold 3 rfl) rfl) rfl ?_
  exact ⟨rfl, h1, hQ, HP.To.end H (unhide SS) hb1⟩
set_option maxHeartbeats 2000000 in
set_option maxRecDepth 100000 in
theorem do10 (h : HP) (B : Nat) (sf : Int) (th : VV) (ar : Value) (tg : VV) (rs : List VV) (t b d : Int) (k : KK) (v : VV) (e : DD) (x g : Bool) (i j : Nat) (w : World) (H : h.Is w) (hF : Holds w B (frC h.b sf th ar tg rs)) (hlt : B < w.heap.size) (hout : B ∉ h.blocks) (V : VV) (Q : HP → Prop) (hC : ∀ X, h.To h w X → Calls Tryz.prog 20 #[.pointer (some ⟨h.b, 0, none⟩), .int .i64 ((j : Int) + 1), k.agg, (refV ((j : Int) + 1)).agg] X fun e w' => e = .returned (.tuple #[V.agg, .nilIface]) ∧ ∃ h1, Q h1 ∧ h.To h1 X w') (hi : rs[i]? = some (refV ((j : Int) + 1))) (hi16 : i < 16) : Calls Tryz.prog 173 #[.pointer (some ⟨B, 0, none⟩), OP.agg ⟨10, t, (i : Nat), b, d, k, v, e, x, g⟩] w fun e w' => e = .returned (.tuple #[V.agg, .nilIface]) ∧ ∃ h1, Q h1 ∧ h.To h1 w w' := by
  have SS := hide H.start
  have HE : Hid (∀ X, h.To h w X → _) := hide (fun X T => enter10 h B sf th ar tg rs t b d k v e x g i j X T.is (hF.block (T.fr.block B hlt hout)) (Nat.lt_of_lt_of_le hlt T.fr.size) hout V Q (fun Y TY => hC Y (T.trans TY)))
  clear hC
  simp only [pagg, kagg, vagg, dagg] at *
  have HF : Hid (∀ X, Fr w X h.blocks → Holds X B (frC h.b sf th ar tg rs)) := hide (fun X k => hF.block (k.block B hlt hout))
  have HI := hide hi16
  have hi := hide hi
  go_enter Tryz.func173, Tryz.ntmps173
  go_wp2_with (first | go_skip | ((with_reducible show wpList _ _ _ _ _ _); first | (refine zB 40 (OP.cs ⟨10, t, (i : Nat), b, d, k, v, e, x, g⟩) (by rfl) rfl rfl rfl SS ?_; clear SS; intro X1 B1 SS; simp only [Act.put, n1, n2, n3]) | (refine zA 24 (zeroV.cs) (by rfl) rfl SS ?_; clear SS; intro X2 B2 SS; simp only [Act.put, n1, n2, n3]) | (refine z1 3 Tryz.isAgg3 1 (by rfl) rfl rfl SS rfl rfl ?_; simp only [Act.put, n1, n2, n3])))
  have hS : Sy w _ h.blocks [hpO h, boxO B1 (OP.cs ⟨10, t, (i : Nat), b, d, k, v, e, x, g⟩), boxO B2 zeroV.cs] := (unhide SS).drew
  clear SS
  refine wp_region_held_drew (P := Tryz.prog) (S := fun X => Sy w X h.blocks _) (by kernel_rfl) (hS) (fun hS0 => ?_)
  refine gp 0 (some 73) (.pointer (some ⟨B, 0, none⟩)) rfl rfl (hS) ?_
  simp only [Act.put, n1, n2, n3]
  refine gp 1 (some 74) (.pointer (some ⟨B1, 2, none⟩)) rfl rfl (hS) ?_
  simp only [Act.put, n1, n2, n3]
  refine gq 2 (some 75) (.int .i64 (i : Nat)) rfl rfl (fun X hX => ex_load1 3 Tryz.isAgg3 rfl rfl (hX.hold 1 rfl) rfl) (hS) ?_
  simp only [Act.put, n1, n2, n3]
  refine gp 3 (some 76) (.pointer (some ⟨B, 0, none⟩)) rfl rfl (hS) ?_
  simp only [Act.put, n1, n2, n3]
  refine gp 4 (some 77) (.pointer (some ⟨B, 13, none⟩)) rfl rfl (hS) ?_
  simp only [Act.put, n1, n2, n3]
  refine gq 5 (some 78) (.pointer (some ⟨B, 13 + i * 5, none⟩)) rfl rfl (fun X hX => ex_ixR i rfl rfl rfl (unhide HI)) (hS) ?_
  simp only [Act.put, n1, n2, n3]
  refine gq 6 (some 79) (.agg (refV ((j : Int) + 1)).cs.toArray) rfl rfl (fun X hX => ex_loadN (vs := (refV ((j : Int) + 1)).cs) 24 5 rwV szV rfl rfl (unhide HF _ hX.fr) (fr_at (unhide hi)) rfl) (hS) ?_
  simp only [Act.put, n1, n2, n3]
  refine gr (rs := [7]) (galS (v := .agg (zeroV.cs).toArray) 7 (some 6) 24 (zeroV.cs) rfl rfl (by kernel_rfl) rfl (fun w => by kernel_rfl) rfl (Nat.succ_pos _) hS (fun _ hZ => Sy.left (L := [_, _, _]) (M := [_]) hZ) ?_ gn)
  intro Yt1 Bt1 hEt1 hqt1
  clear hEt1
  simp only [Act.put, n1, n2, n3]
  refine gr (rs := [8]) (gstS (vs := (refV ((j : Int) + 1)).cs) (new := (refV ((j : Int) + 1)).cs) 8 3 24 rfl rfl (by kernel_rfl) rfl rfl rfl rfl (oneV _) szV hqt1 rfl (by simp [cput, VV.cs, KK.cs, DD.cs, OB.cs, hcs, zeroD, zeroV]) (by simp [cput, VV.cs, KK.cs, DD.cs, OB.cs, hcs, zeroD, zeroV]) (fun _ hZ => Sy.left (L := [_, _, _]) (M := [_]) hZ) ?_ gn)
  intro Yt2 hqt2
  refine wpAnyH_done (by kernel_rfl) ?_ _
  try simp only [Act.put, n1, n2, n3]
  have SS := hide hqt2
  go_wp2_with (first | go_skip | ((with_reducible show wpList _ _ _ _ _ _); first | (refine z1 3 Tryz.isAgg3 3 (by rfl) rfl rfl SS rfl rfl ?_; simp only [Act.put, n1, n2, n3]) | (refine zL (OP.cs ⟨10, t, (i : Nat), b, d, k, v, e, x, g⟩) 40 32 1 rwP_ szP_ (by rfl) rfl rfl SS rfl rfl rfl ?_; simp only [Act.put, n1, n2, n3]) | (refine zL ((refV ((j : Int) + 1)).cs) 24 5 3 rwV szV (by rfl) rfl rfl SS rfl rfl rfl ?_; simp only [Act.put, n1, n2, n3])))
  refine (unhide HE _ (HP.To.end H (unhide SS) rfl)).mono ?_
  rintro _ Y9 ⟨rfl, h1, hQ, T9⟩
  have hb1 : h1.b = h.b := T9.hb
  replace SS := hide ((unhide SS).heap 0 rfl T9)
  clear T9
  try simp only [vagg]
  go_wp2_with (first | go_skip | ((with_reducible show wpList _ _ _ _ _ _); first | (refine zS (V.cs) 2 24 (by rfl) rfl rfl rfl rfl (oneV _) szV SS rfl ?_; clear SS; intro Xz SS; simp only [Act.put, n1, n2, n3])))
  refine bodyPost_ret (res_ct rwV szV rfl rfl rfl ((unhide SS).hold 2 rfl) rfl) rfl ?_
  exact ⟨rfl, h1, hQ, HP.To.end H (unhide SS) hb1⟩
set_option maxHeartbeats 2000000 in
set_option maxRecDepth 100000 in
theorem do12 (h : HP) (B : Nat) (sf : Int) (th : VV) (ar : Value) (tg : VV) (rs : List VV) (t d : Int) (k : KK) (v : VV) (e : DD) (g : Bool) (i j n : Nat) (vb : VV) (w : World) (H : h.Is w) (hF : Holds w B (frC h.b sf th ar tg rs)) (hlt : B < w.heap.size) (hout : B ∉ h.blocks) (y : Bool) (Q : HP → Prop) (hC : ∀ X, h.To h w X → Calls Tryz.prog 15 #[.pointer (some ⟨h.b, 0, none⟩), .int .i64 ((j : Int) + 1), k.agg, (DD.mk vb e.g e.s e.w e.e e.c).agg] X fun e w' => e = .returned (.tuple #[.bool y, .nilIface]) ∧ ∃ h1, Q h1 ∧ h.To h1 X w') (hn : rs[n]? = some vb) (hn16 : n < 16) (hi : rs[i]? = some (refV ((j : Int) + 1))) (hi16 : i < 16) : Calls Tryz.prog 173 #[.pointer (some ⟨B, 0, none⟩), OP.agg ⟨12, t, (i : Nat), (n : Nat), d, k, v, e, true, g⟩] w fun e w' => e = .returned (.tuple #[(boolV y).agg, .nilIface]) ∧ ∃ h1, Q h1 ∧ h.To h1 w w' := by
  have SS := hide H.start
  have HE : Hid (∀ X, h.To h w X → _) := hide (fun X T => enter12 h B sf th ar tg rs t d k v e g i j n vb X T.is (hF.block (T.fr.block B hlt hout)) (Nat.lt_of_lt_of_le hlt T.fr.size) hout y Q (fun Y TY => hC Y (T.trans TY)) hn hn16)
  clear hC
  simp only [pagg, kagg, vagg, dagg] at *
  have HF : Hid (∀ X, Fr w X h.blocks → Holds X B (frC h.b sf th ar tg rs)) := hide (fun X k => hF.block (k.block B hlt hout))
  have HI := hide hi16
  have hi := hide hi
  go_enter Tryz.func173, Tryz.ntmps173
  go_wp2_with (first | go_skip | ((with_reducible show wpList _ _ _ _ _ _); first | (refine zB 40 (OP.cs ⟨12, t, (i : Nat), (n : Nat), d, k, v, e, true, g⟩) (by rfl) rfl rfl rfl SS ?_; clear SS; intro X1 B1 SS; simp only [Act.put, n1, n2, n3]) | (refine zA 24 (zeroV.cs) (by rfl) rfl SS ?_; clear SS; intro X2 B2 SS; simp only [Act.put, n1, n2, n3]) | (refine z1 3 Tryz.isAgg3 1 (by rfl) rfl rfl SS rfl rfl ?_; simp only [Act.put, n1, n2, n3])))
  have hS : Sy w _ h.blocks [hpO h, boxO B1 (OP.cs ⟨12, t, (i : Nat), (n : Nat), d, k, v, e, true, g⟩), boxO B2 zeroV.cs] := (unhide SS).drew
  clear SS
  refine wp_region_held_drew (P := Tryz.prog) (S := fun X => Sy w X h.blocks _) (by kernel_rfl) (hS) (fun hS0 => ?_)
  refine gp 0 (some 73) (.pointer (some ⟨B, 0, none⟩)) rfl rfl (hS) ?_
  simp only [Act.put, n1, n2, n3]
  refine gp 1 (some 74) (.pointer (some ⟨B1, 2, none⟩)) rfl rfl (hS) ?_
  simp only [Act.put, n1, n2, n3]
  refine gq 2 (some 75) (.int .i64 (i : Nat)) rfl rfl (fun X hX => ex_load1 3 Tryz.isAgg3 rfl rfl (hX.hold 1 rfl) rfl) (hS) ?_
  simp only [Act.put, n1, n2, n3]
  refine gp 3 (some 76) (.pointer (some ⟨B, 0, none⟩)) rfl rfl (hS) ?_
  simp only [Act.put, n1, n2, n3]
  refine gp 4 (some 77) (.pointer (some ⟨B, 13, none⟩)) rfl rfl (hS) ?_
  simp only [Act.put, n1, n2, n3]
  refine gq 5 (some 78) (.pointer (some ⟨B, 13 + i * 5, none⟩)) rfl rfl (fun X hX => ex_ixR i rfl rfl rfl (unhide HI)) (hS) ?_
  simp only [Act.put, n1, n2, n3]
  refine gq 6 (some 79) (.agg (refV ((j : Int) + 1)).cs.toArray) rfl rfl (fun X hX => ex_loadN (vs := (refV ((j : Int) + 1)).cs) 24 5 rwV szV rfl rfl (unhide HF _ hX.fr) (fr_at (unhide hi)) rfl) (hS) ?_
  simp only [Act.put, n1, n2, n3]
  refine gr (rs := [7]) (galS (v := .agg (zeroV.cs).toArray) 7 (some 6) 24 (zeroV.cs) rfl rfl (by kernel_rfl) rfl (fun w => by kernel_rfl) rfl (Nat.succ_pos _) hS (fun _ hZ => Sy.left (L := [_, _, _]) (M := [_]) hZ) ?_ gn)
  intro Yt1 Bt1 hEt1 hqt1
  clear hEt1
  simp only [Act.put, n1, n2, n3]
  refine gr (rs := [8]) (gstS (vs := (refV ((j : Int) + 1)).cs) (new := (refV ((j : Int) + 1)).cs) 8 3 24 rfl rfl (by kernel_rfl) rfl rfl rfl rfl (oneV _) szV hqt1 rfl (by simp [cput, VV.cs, KK.cs, DD.cs, OB.cs, hcs, zeroD, zeroV]) (by simp [cput, VV.cs, KK.cs, DD.cs, OB.cs, hcs, zeroD, zeroV]) (fun _ hZ => Sy.left (L := [_, _, _]) (M := [_]) hZ) ?_ gn)
  intro Yt2 hqt2
  refine wpAnyH_done (by kernel_rfl) ?_ _
  try simp only [Act.put, n1, n2, n3]
  have SS := hide hqt2
  go_wp2_with (first | go_skip | ((with_reducible show wpList _ _ _ _ _ _); first | (refine z1 3 Tryz.isAgg3 3 (by rfl) rfl rfl SS rfl rfl ?_; simp only [Act.put, n1, n2, n3]) | (refine zL (OP.cs ⟨12, t, (i : Nat), (n : Nat), d, k, v, e, true, g⟩) 40 32 1 rwP_ szP_ (by rfl) rfl rfl SS rfl rfl rfl ?_; simp only [Act.put, n1, n2, n3]) | (refine zL ((refV ((j : Int) + 1)).cs) 24 5 3 rwV szV (by rfl) rfl rfl SS rfl rfl rfl ?_; simp only [Act.put, n1, n2, n3])))
  refine (unhide HE _ (HP.To.end H (unhide SS) rfl)).mono ?_
  rintro _ Y9 ⟨rfl, h1, hQ, T9⟩
  have hb1 : h1.b = h.b := T9.hb
  replace SS := hide ((unhide SS).heap 0 rfl T9)
  clear T9
  try simp only [vagg]
  go_wp2_with (first | go_skip | ((with_reducible show wpList _ _ _ _ _ _); first | (refine zS ((boolV y).cs) 2 24 (by rfl) rfl rfl rfl rfl (oneV _) szV SS rfl ?_; clear SS; intro Xz SS; simp only [Act.put, n1, n2, n3])))
  refine bodyPost_ret (res_ct rwV szV rfl rfl rfl ((unhide SS).hold 2 rfl) rfl) rfl ?_
  exact ⟨rfl, h1, hQ, HP.To.end H (unhide SS) hb1⟩
