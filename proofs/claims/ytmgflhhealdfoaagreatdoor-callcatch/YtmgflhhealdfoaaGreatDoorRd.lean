import Derived.Test.YtmgflhhealdfoaaGreatDoorRc
set_option linter.all false
namespace Go.Proofs.YtmgflhhealdfoaaGreatDoor
set_option maxHeartbeats 1000000
section
open Go Go.Proofs Go.Maps Go.RowKit FM
attribute [local go_sem] mm_GetOwnProperty mm_DefineOwnProperty mm_Get ta_caller ta_builder
theorem ldM {o : Oper} {a : Act} {w : World} {b : Nat} {v : Value} {t : Nat} (h : (execOp a.eval o).run Tryz.prog w = .ok (.value (.iface (mt b) v)) w) (hb : mt b = t) : (execOp a.eval o).run Tryz.prog w = .ok (.value (.iface t v)) w := hb ▸ h
set_option maxRecDepth 100000 in
theorem own_a0 (h : HP) (j : Nat) (q : OB) (k : KK) (w : World) (H : h.Is w) (hl : h.l.length ≤ 65536) (hj : h.l[j]? = some q) (hk : OkK k) (hm : mt q.m = 72) : Calls Tryz.prog 129 #[.pointer (some ⟨h.b, 0, none⟩), .int .i64 ((j : Int) + 1), k.agg] w fun e w' => e = .returned (.tuple #[(getD q.T k).agg, .bool (q.T.find k).isSome, .nilIface]) ∧ Below w.heap.size w w' := by
  have SS := hide (Sy.nil w [])
  rw [kagg]
  go_enter Tryz.func129, Tryz.ntmps129
  go_wp2_with (first | go_skip | ((with_reducible show wpList _ _ _ _ _ _); first | (refine zB 26 (k.cs) (by rfl) rfl rfl rfl SS ?_; clear SS; intro Xa Ba SS; simp only [Act.put, n1, n2, n3]) | (refine zA 38 (zeroD.cs) (by rfl) rfl SS ?_; clear SS; intro Xb Bb SS; simp only [Act.put, n1, n2, n3])))
  have hS : Sy w _ [] [boxO Ba k.cs, boxO Bb zeroD.cs] := (unhide SS).drew
  clear SS
  have cu : ∀ {X : World} {M : List Ob}, Sy w X [] ([boxO Ba k.cs] ++ M) → Sy w X [] [boxO Ba k.cs] := fun h => Sy.left h
  refine wp_region_held_drew (P := Tryz.prog) (S := fun X => Sy w X [] [boxO Ba k.cs]) (by kernel_rfl) (cu hS) (fun hS0 => ?_)
  refine gp 0 (some 9) (.pointer (some ⟨h.b, 0, none⟩)) rfl rfl (cu hS) ?_
  simp only [Act.put, n1, n2, n3]
  refine gp 1 (some 10) (.int .i64 ((j : Int) + 1)) rfl rfl (cu hS) ?_
  simp only [Act.put, n1, n2, n3]
  refine gp 6 (some 15) (.pointer (some ⟨h.b, 0, none⟩)) rfl rfl (cu hS) ?_
  simp only [Act.put, n1, n2, n3]
  refine gp 7 (some 16) (.int .i64 ((j : Int) + 1)) rfl rfl (cu hS) ?_
  simp only [Act.put, n1, n2, n3]
  refine gq 8 (some 17) (.agg k.cs.toArray) rfl rfl (fun X hX => ex_loadN (vs := k.cs) 26 2 rwK szK rfl rfl (hX.hold 0 rfl) rfl rfl) (cu hS) ?_
  simp only [Act.put, n1, n2, n3]
  refine gr (rs := [2]) (gcW 2 (some 11) rfl rfl (cu hS) (at_h h j q _ (H.on hS.fr.below) hj hl) ?_ gn)
  refine gp 3 (some 12) (.pointer (some ⟨q.b, 0, none⟩)) rfl rfl (cu hS) ?_
  simp only [Act.put, n1, n2, n3]
  refine gp 4 (some 13) (.pointer (some ⟨q.b, 8, none⟩)) rfl rfl (cu hS) ?_
  simp only [Act.put, n1, n2, n3]
  refine gq 5 (some 14) (.iface 72 (.agg #[])) rfl rfl (fun X hX => ldM (ex_load1 77 Tryz.isAgg77 rfl rfl ((H.on hX.fr.below).ob hj).1 rfl) hm) (cu hS) ?_
  simp only [Act.put, n1, n2, n3]
  refine gr (rs := [9]) (gcB 9 (some 18) rfl rfl hS (ord_own h j q k _ (H.on hS.fr.below) hl hj hk) (fun x => cu x) ?_ gn)
  intro Y2 hq2
  refine gp 10 (some 19) ((getD q.T k).agg) rfl rfl (cu hq2) ?_
  simp only [Act.put, n1, n2, n3]
  refine gp 11 (some 20) (.bool (q.T.find k).isSome) rfl rfl (cu hq2) ?_
  simp only [Act.put, n1, n2, n3]
  refine gp 12 (some 21) (.nilIface) rfl rfl (cu hq2) ?_
  simp only [Act.put, n1, n2, n3]
  refine gr (rs := [13]) (gstS (vs := (getD q.T k).cs) (new := (getD q.T k).cs) 13 1 38 rfl rfl (by kernel_rfl) rfl rfl rfl rfl (oneD _) szD hq2 rfl (by simp [cput, VV.cs, KK.cs, DD.cs, OB.cs, hcs, zeroD, zeroV]) (by simp [cput, VV.cs, KK.cs, DD.cs, OB.cs, hcs, zeroD, zeroV]) (fun _ hZ => cu hZ) ?_ gn)
  intro Y3 hq3
  refine gp 14 (some 7) (.bool (q.T.find k).isSome) rfl rfl (cu hq3) ?_
  simp only [Act.put, n1, n2, n3]
  refine gp 15 (some 8) (.nilIface) rfl rfl (cu hq3) ?_
  simp only [Act.put, n1, n2, n3]
  refine wpAnyH_done (by kernel_rfl) ?_ _
  try simp only [Act.put, n1, n2, n3]
  have SS := hide hq3
  go_wp2
  refine bodyPost_ret (res_ctt rwD szD rfl rfl rfl rfl ((unhide SS).hold 1 rfl) rfl) rfl ?_
  exact ⟨rfl, (unhide SS).fr.below⟩
set_option maxRecDepth 100000 in
theorem own_a1 (h : HP) (j : Nat) (q : OB) (k : KK) (w : World) (H : h.Is w) (hl : h.l.length ≤ 65536) (hj : h.l[j]? = some q) (hk : OkK k) (hm : mt q.m = 105) : Calls Tryz.prog 129 #[.pointer (some ⟨h.b, 0, none⟩), .int .i64 ((j : Int) + 1), k.agg] w fun e w' => e = .returned (.tuple #[(getD q.T k).agg, .bool (q.T.find k).isSome, .nilIface]) ∧ Below w.heap.size w w' := by
  have SS := hide (Sy.nil w [])
  rw [kagg]
  go_enter Tryz.func129, Tryz.ntmps129
  go_wp2_with (first | go_skip | ((with_reducible show wpList _ _ _ _ _ _); first | (refine zB 26 (k.cs) (by rfl) rfl rfl rfl SS ?_; clear SS; intro Xa Ba SS; simp only [Act.put, n1, n2, n3]) | (refine zA 38 (zeroD.cs) (by rfl) rfl SS ?_; clear SS; intro Xb Bb SS; simp only [Act.put, n1, n2, n3])))
  have hS : Sy w _ [] [boxO Ba k.cs, boxO Bb zeroD.cs] := (unhide SS).drew
  clear SS
  have cu : ∀ {X : World} {M : List Ob}, Sy w X [] ([boxO Ba k.cs] ++ M) → Sy w X [] [boxO Ba k.cs] := fun h => Sy.left h
  refine wp_region_held_drew (P := Tryz.prog) (S := fun X => Sy w X [] [boxO Ba k.cs]) (by kernel_rfl) (cu hS) (fun hS0 => ?_)
  refine gp 0 (some 9) (.pointer (some ⟨h.b, 0, none⟩)) rfl rfl (cu hS) ?_
  simp only [Act.put, n1, n2, n3]
  refine gp 1 (some 10) (.int .i64 ((j : Int) + 1)) rfl rfl (cu hS) ?_
  simp only [Act.put, n1, n2, n3]
  refine gp 6 (some 15) (.pointer (some ⟨h.b, 0, none⟩)) rfl rfl (cu hS) ?_
  simp only [Act.put, n1, n2, n3]
  refine gp 7 (some 16) (.int .i64 ((j : Int) + 1)) rfl rfl (cu hS) ?_
  simp only [Act.put, n1, n2, n3]
  refine gq 8 (some 17) (.agg k.cs.toArray) rfl rfl (fun X hX => ex_loadN (vs := k.cs) 26 2 rwK szK rfl rfl (hX.hold 0 rfl) rfl rfl) (cu hS) ?_
  simp only [Act.put, n1, n2, n3]
  refine gr (rs := [2]) (gcW 2 (some 11) rfl rfl (cu hS) (at_h h j q _ (H.on hS.fr.below) hj hl) ?_ gn)
  refine gp 3 (some 12) (.pointer (some ⟨q.b, 0, none⟩)) rfl rfl (cu hS) ?_
  simp only [Act.put, n1, n2, n3]
  refine gp 4 (some 13) (.pointer (some ⟨q.b, 8, none⟩)) rfl rfl (cu hS) ?_
  simp only [Act.put, n1, n2, n3]
  refine gq 5 (some 14) (.iface 105 (.agg #[])) rfl rfl (fun X hX => ldM (ex_load1 77 Tryz.isAgg77 rfl rfl ((H.on hX.fr.below).ob hj).1 rfl) hm) (cu hS) ?_
  simp only [Act.put, n1, n2, n3]
  refine gr (rs := [9]) (gcB 9 (some 18) rfl rfl hS (ord_own h j q k _ (H.on hS.fr.below) hl hj hk) (fun x => cu x) ?_ gn)
  intro Y2 hq2
  refine gp 10 (some 19) ((getD q.T k).agg) rfl rfl (cu hq2) ?_
  simp only [Act.put, n1, n2, n3]
  refine gp 11 (some 20) (.bool (q.T.find k).isSome) rfl rfl (cu hq2) ?_
  simp only [Act.put, n1, n2, n3]
  refine gp 12 (some 21) (.nilIface) rfl rfl (cu hq2) ?_
  simp only [Act.put, n1, n2, n3]
  refine gr (rs := [13]) (gstS (vs := (getD q.T k).cs) (new := (getD q.T k).cs) 13 1 38 rfl rfl (by kernel_rfl) rfl rfl rfl rfl (oneD _) szD hq2 rfl (by simp [cput, VV.cs, KK.cs, DD.cs, OB.cs, hcs, zeroD, zeroV]) (by simp [cput, VV.cs, KK.cs, DD.cs, OB.cs, hcs, zeroD, zeroV]) (fun _ hZ => cu hZ) ?_ gn)
  intro Y3 hq3
  refine gp 14 (some 7) (.bool (q.T.find k).isSome) rfl rfl (cu hq3) ?_
  simp only [Act.put, n1, n2, n3]
  refine gp 15 (some 8) (.nilIface) rfl rfl (cu hq3) ?_
  simp only [Act.put, n1, n2, n3]
  refine wpAnyH_done (by kernel_rfl) ?_ _
  try simp only [Act.put, n1, n2, n3]
  have SS := hide hq3
  go_wp2
  refine bodyPost_ret (res_ctt rwD szD rfl rfl rfl rfl ((unhide SS).hold 1 rfl) rfl) rfl ?_
  exact ⟨rfl, (unhide SS).fr.below⟩
set_option maxRecDepth 100000 in
theorem own_a2 (h : HP) (j : Nat) (q : OB) (k : KK) (w : World) (H : h.Is w) (hl : h.l.length ≤ 65536) (hj : h.l[j]? = some q) (hk : OkK k) (hm : mt q.m = 107) : Calls Tryz.prog 129 #[.pointer (some ⟨h.b, 0, none⟩), .int .i64 ((j : Int) + 1), k.agg] w fun e w' => e = .returned (.tuple #[(getD q.T k).agg, .bool (q.T.find k).isSome, .nilIface]) ∧ Below w.heap.size w w' := by
  have SS := hide (Sy.nil w [])
  rw [kagg]
  go_enter Tryz.func129, Tryz.ntmps129
  go_wp2_with (first | go_skip | ((with_reducible show wpList _ _ _ _ _ _); first | (refine zB 26 (k.cs) (by rfl) rfl rfl rfl SS ?_; clear SS; intro Xa Ba SS; simp only [Act.put, n1, n2, n3]) | (refine zA 38 (zeroD.cs) (by rfl) rfl SS ?_; clear SS; intro Xb Bb SS; simp only [Act.put, n1, n2, n3])))
  have hS : Sy w _ [] [boxO Ba k.cs, boxO Bb zeroD.cs] := (unhide SS).drew
  clear SS
  have cu : ∀ {X : World} {M : List Ob}, Sy w X [] ([boxO Ba k.cs] ++ M) → Sy w X [] [boxO Ba k.cs] := fun h => Sy.left h
  refine wp_region_held_drew (P := Tryz.prog) (S := fun X => Sy w X [] [boxO Ba k.cs]) (by kernel_rfl) (cu hS) (fun hS0 => ?_)
  refine gp 0 (some 9) (.pointer (some ⟨h.b, 0, none⟩)) rfl rfl (cu hS) ?_
  simp only [Act.put, n1, n2, n3]
  refine gp 1 (some 10) (.int .i64 ((j : Int) + 1)) rfl rfl (cu hS) ?_
  simp only [Act.put, n1, n2, n3]
  refine gp 6 (some 15) (.pointer (some ⟨h.b, 0, none⟩)) rfl rfl (cu hS) ?_
  simp only [Act.put, n1, n2, n3]
  refine gp 7 (some 16) (.int .i64 ((j : Int) + 1)) rfl rfl (cu hS) ?_
  simp only [Act.put, n1, n2, n3]
  refine gq 8 (some 17) (.agg k.cs.toArray) rfl rfl (fun X hX => ex_loadN (vs := k.cs) 26 2 rwK szK rfl rfl (hX.hold 0 rfl) rfl rfl) (cu hS) ?_
  simp only [Act.put, n1, n2, n3]
  refine gr (rs := [2]) (gcW 2 (some 11) rfl rfl (cu hS) (at_h h j q _ (H.on hS.fr.below) hj hl) ?_ gn)
  refine gp 3 (some 12) (.pointer (some ⟨q.b, 0, none⟩)) rfl rfl (cu hS) ?_
  simp only [Act.put, n1, n2, n3]
  refine gp 4 (some 13) (.pointer (some ⟨q.b, 8, none⟩)) rfl rfl (cu hS) ?_
  simp only [Act.put, n1, n2, n3]
  refine gq 5 (some 14) (.iface 107 (.agg #[])) rfl rfl (fun X hX => ldM (ex_load1 77 Tryz.isAgg77 rfl rfl ((H.on hX.fr.below).ob hj).1 rfl) hm) (cu hS) ?_
  simp only [Act.put, n1, n2, n3]
  refine gr (rs := [9]) (gcB 9 (some 18) rfl rfl hS (ord_own h j q k _ (H.on hS.fr.below) hl hj hk) (fun x => cu x) ?_ gn)
  intro Y2 hq2
  refine gp 10 (some 19) ((getD q.T k).agg) rfl rfl (cu hq2) ?_
  simp only [Act.put, n1, n2, n3]
  refine gp 11 (some 20) (.bool (q.T.find k).isSome) rfl rfl (cu hq2) ?_
  simp only [Act.put, n1, n2, n3]
  refine gp 12 (some 21) (.nilIface) rfl rfl (cu hq2) ?_
  simp only [Act.put, n1, n2, n3]
  refine gr (rs := [13]) (gstS (vs := (getD q.T k).cs) (new := (getD q.T k).cs) 13 1 38 rfl rfl (by kernel_rfl) rfl rfl rfl rfl (oneD _) szD hq2 rfl (by simp [cput, VV.cs, KK.cs, DD.cs, OB.cs, hcs, zeroD, zeroV]) (by simp [cput, VV.cs, KK.cs, DD.cs, OB.cs, hcs, zeroD, zeroV]) (fun _ hZ => cu hZ) ?_ gn)
  intro Y3 hq3
  refine gp 14 (some 7) (.bool (q.T.find k).isSome) rfl rfl (cu hq3) ?_
  simp only [Act.put, n1, n2, n3]
  refine gp 15 (some 8) (.nilIface) rfl rfl (cu hq3) ?_
  simp only [Act.put, n1, n2, n3]
  refine wpAnyH_done (by kernel_rfl) ?_ _
  try simp only [Act.put, n1, n2, n3]
  have SS := hide hq3
  go_wp2
  refine bodyPost_ret (res_ctt rwD szD rfl rfl rfl rfl ((unhide SS).hold 1 rfl) rfl) rfl ?_
  exact ⟨rfl, (unhide SS).fr.below⟩
theorem own_h (h : HP) (j : Nat) (q : OB) (k : KK) (w : World) (H : h.Is w) (hl : h.l.length ≤ 65536) (hj : h.l[j]? = some q) (hk : OkK k) : Calls Tryz.prog 129 #[.pointer (some ⟨h.b, 0, none⟩), .int .i64 ((j : Int) + 1), k.agg] w fun e w' => e = .returned (.tuple #[(getD q.T k).agg, .bool (q.T.find k).isSome, .nilIface]) ∧ Below w.heap.size w w' := by
  obtain ⟨m, hm⟩ : ∃ m, q.m = m := ⟨_, rfl⟩
  rcases m with _ | _ | m
  · exact own_a0 h j q k w H hl hj hk (by rw [hm]; rfl)
  · exact own_a1 h j q k w H hl hj hk (by rw [hm]; rfl)
  · exact own_a2 h j q k w H hl hj hk (by rw [hm]; rfl)
def HP.tab (h : HP) (j : Nat) (q : OB) (T' : TT) : HP := { h with l := h.l.set j { q with T := T' } }
