import Derived.Test.YtmfhjbmgbbkicaaDoorHi
namespace Go.Proofs.YtmfhjbmgbbkicaaDoor
open Go Go.Proofs Go.Maps Go.RowKit FM
set_option linter.unusedSimpArgs false
set_option linter.unusedVariables false
set_option maxHeartbeats 1000000
theorem inf55 : (Tryd.prog.info? 55).map (fun i => (i.zero, i.size, i.bytes)) = some (some (.pointer none), 1, 8) := by kernel_rfl
theorem ex_build84 {o : Oper} {a : Act} {w : World} {x0 x1 x2 : Operand} (e0 e1 e2 : Int) (ho : o.op = .buildSlice 84 3 #[(0, x0), (1, x1), (2, x2)]) (h0 : a.eval x0 = .int .i64 e0) (h1 : a.eval x1 = .int .i64 e1) (h2 : a.eval x2 = .int .i64 e2) : (execOp a.eval o).run Tryd.prog w = .ok (.value (.slice (some ⟨w.heap.size, 0, none⟩) 3 3)) (w.alloc (Obj.cells (ints [e0, e1, e2]).toArray 25)) := by
  have e : (Instr.buildSlice 84 3 #[(0, .int .i64 e0), (1, .int .i64 e1), (2, .int .i64 e2)]).run Tryd.prog w = .ok (.slice (some ⟨w.heap.size, 0, none⟩) 3 3) (w.alloc (Obj.cells (ints [e0, e1, e2]).toArray 25)) := by kernel_rfl
  unfold execOp
  simp only [ho]
  simp [h0, h1, h2, e]
theorem ex_build79 {o : Oper} {a : Act} {w : World} {x0 x1 x2 x3 x4 x5 : Operand} (p : VV) (t m : Nat) (ho : o.op = .build 79 #[(0, x0), (1, x1), (2, x2), (3, x3), (4, x4), (5, x5)]) (h0 : a.eval x0 = .int .i64 1) (h1 : a.eval x1 = .agg p.cs.toArray) (h2 : a.eval x2 = .bool true) (h3 : a.eval x3 = .pointer (some ⟨t, 0, none⟩)) (h4 : a.eval x4 = .iface 54 (.agg #[])) (h5 : a.eval x5 = .nilIface) : (execOp a.eval o).run Tryd.prog w = .ok (.value (.agg (OB.mk 0 t m p).cs.toArray)) w := by
  have e : (Instr.build 79 #[(0, .int .i64 1), (1, .agg p.cs.toArray), (2, .bool true), (3, .pointer (some ⟨t, 0, none⟩)), (4, .iface 54 (.agg #[])), (5, .nilIface)]).run Tryd.prog w = .ok (.agg (OB.mk 0 t m p).cs.toArray) w := by kernel_rfl
  unfold execOp
  simp only [ho]
  simp [h0, h1, h2, h3, h4, h5, e]
theorem ocs_one (o : OB) : ∀ u ∈ o.cs, u.oneCell' = true := by simp [OB.cs, VV.cs, Value.oneCell']
def addE (h : HP) (p : VV) : Int := orE [checkE h.l.length p, protoE p, roomE h]
def AddOk (w : World) (n : Nat) (h : HP) (p : VV) (e : Ending) (w' : World) : Prop := ∃ (o : OB) (gv : Value), e = .returned (.tuple #[.int .i64 ((h.l.length : Int) + 1), .nilIface]) ∧ o.p = p ∧ HP.Is w' n ⟨h.b, gv, h.l ++ [o], h.cap, h.fuel, h.depth⟩ ∧ Fr w w' (h.b :: h.gv.ownBlock.toList) ∧ (∀ g, gv.ownBlock = some g → h.gv.ownBlock = some g ∨ w.heap.size ≤ g) ∧ ∀ b ∈ o.blocks, w.heap.size ≤ b
theorem addE_room {h : HP} {p : VV} (he : addE h p = 0) : (h.l.length : Int) < h.cap := by
  unfold addE at he
  simp only [orE] at he
  rcases Int.lt_or_le (h.l.length : Int) h.cap with h1 | h1
  · exact h1
  · exfalso
    have hr : roomE h = 3 := by unfold roomE; rw [if_pos h1]
    rw [hr] at he
    split at he
    · split at he
      · simp at he
      · contradiction
    · contradiction
theorem bl (X : World) (o : Obj) : Below X.heap.size X (X.alloc o) := (Below.refl _ _).alloc (Nat.le_refl _) _
set_option maxHeartbeats 4000000 in
set_option maxRecDepth 100000 in
theorem add14_bad (h : HP) (n : Nat) (p : VV) (E : Int) (w : World) (H : h.Is w n) (hT : Lib.Utf8Tabs 1 2 w) (he : addE h p = E) (hE : (E != 0) = true) : Calls Tryd.prog 14 #[.pointer (some ⟨h.b, 0, none⟩), .int .i64 1, p.agg, .iface 54 (.agg #[]), .nilIface] w fun e w' => e = .returned (.tuple #[.int .i64 0, .iface 25 (.int .i64 E)]) ∧ Below w.heap.size w w' := by
  have LL := hide (Hq.nil w [])
  have hor : orE [checkE h.l.length p, protoE p, roomE h] = E := he
  rw [vagg]
  go_enter Tryd.func14, Tryd.ntmps14
  go_wp2_with (first | go_skip | ((with_reducible show wpList _ _ _ _ _ _); first | ((refine bx 35 (p.cs) (by rfl) rfl rfl rfl (Nat.succ_pos _) (unhide LL) ?_); intro X7 B7 hE7 L7 hb7; have hB7 := hide (Nat.le_trans (unhide LL).fr.size (Nat.le_of_eq hE7.symm)); replace LL := hide L7; clear L7 hb7 hE7; simp only [Act.put, List.setIfInBounds_toArray, List.set_cons_succ, List.set_cons_zero])))
  have hq0 : Hq w _ [] [(B7, p.cs)] := (unhide LL).drew
  refine wp_region_held_drew (P := Tryd.prog) (S := fun X => Hq w X [] [(B7, p.cs)]) (by kernel_rfl) hq0 (fun hS0 => ?_)
  refine gsem 0 (some 13) (.pointer (some ⟨h.b, 0, none⟩)) rfl (by kernel_rfl) (by kernel_rfl) (by kernel_rfl) (fun _ _ _ h => h) (by kernel_rfl) (by kernel_rfl) (fun _ _ => by kernel_rfl) hq0 ?_
  simp only [Act.put, List.setIfInBounds_toArray, List.set_cons_succ, List.set_cons_zero]
  refine gsem 1 (some 14) (.agg p.cs.toArray) rfl (by kernel_rfl) (by kernel_rfl) (by kernel_rfl) (fun _ _ _ h => h) (by kernel_rfl) (by kernel_rfl) (fun X hX => ex_loadN (vs := p.cs) 35 5 row35 siz35 rfl rfl (hX.get 0 rfl) rfl rfl) hq0 ?_
  simp only [Act.put, List.setIfInBounds_toArray, List.set_cons_succ, List.set_cons_zero]
  refine gsem 3 (some 16) (.agg p.cs.toArray) rfl (by kernel_rfl) (by kernel_rfl) (by kernel_rfl) (fun _ _ _ h => h) (by kernel_rfl) (by kernel_rfl) (fun X hX => ex_loadN (vs := p.cs) 35 5 row35 siz35 rfl rfl (hX.get 0 rfl) rfl rfl) hq0 ?_
  simp only [Act.put, List.setIfInBounds_toArray, List.set_cons_succ, List.set_cons_zero]
  refine gsem 5 (some 18) (.pointer (some ⟨h.b, 0, none⟩)) rfl (by kernel_rfl) (by kernel_rfl) (by kernel_rfl) (fun _ _ _ h => h) (by kernel_rfl) (by kernel_rfl) (fun _ _ => by kernel_rfl) hq0 ?_
  simp only [Act.put, List.setIfInBounds_toArray, List.set_cons_succ, List.set_cons_zero]
  refine wpAnyH_ready (rs := [2]) (by kernel_rfl) (by simp) (gcallR 2 (some 15) rfl (by kernel_rfl) (by kernel_rfl) (by kernel_rfl) (check21 h n p _ (H.fr hq0.fr) (tabs_below hT hq0.fr.below)) ?_ AllReadyH.nil)
  rintro e2 X2 ⟨rfl, hb2⟩
  have hq2 := hq0.on hb2
  refine ⟨_, rfl, hq2, ?_⟩
  simp only [Act.put, List.setIfInBounds_toArray, List.set_cons_succ, List.set_cons_zero]
  refine wpAnyH_ready (rs := [4]) (by kernel_rfl) (by simp) (gcallR 4 (some 17) rfl (by kernel_rfl) (by kernel_rfl) (by kernel_rfl) (protoKind22 p _) ?_ AllReadyH.nil)
  rintro e4 X4 ⟨rfl, hb4⟩
  have hq4 := hq2.on hb4
  refine ⟨_, rfl, hq4, ?_⟩
  simp only [Act.put, List.setIfInBounds_toArray, List.set_cons_succ, List.set_cons_zero]
  refine wpAnyH_ready (rs := [6]) (by kernel_rfl) (by simp) (gcallR 6 (some 19) rfl (by kernel_rfl) (by kernel_rfl) (by kernel_rfl) (room23 h n _ (H.fr hq4.fr)) ?_ AllReadyH.nil)
  rintro e6 X6 ⟨rfl, hb6⟩
  have hq6 := hq4.on hb6
  refine ⟨_, rfl, hq6, ?_⟩
  simp only [Act.put, List.setIfInBounds_toArray, List.set_cons_succ, List.set_cons_zero]
  have hI := Holds.new X6 (ints [checkE h.l.length p, protoE p, roomE h]) 25
  have hq7 := hq6.on (bl X6 (Obj.cells (ints [checkE h.l.length p, protoE p, roomE h]).toArray 25))
  refine wpAnyH_ready (rs := [7]) (by kernel_rfl) (by simp) (gval 7 (some 20) rfl (by kernel_rfl) (by kernel_rfl) (ex_build84 (checkE h.l.length p) (protoE p) (roomE h) rfl rfl rfl rfl) hq7 ?_ AllReadyH.nil)
  simp only [Act.put, List.setIfInBounds_toArray, List.set_cons_succ, List.set_cons_zero]
  refine wpAnyH_ready (rs := [8]) (by kernel_rfl) (by simp) (gcallR 8 (some 21) rfl (by kernel_rfl) (by kernel_rfl) (by kernel_rfl) (or20 _ 3 [checkE h.l.length p, protoE p, roomE h] _ hI (by simp)) ?_ AllReadyH.nil)
  rintro e8 X8 ⟨rfl, rfl⟩
  refine ⟨_, rfl, hq7, ?_⟩
  simp only [Act.put, List.setIfInBounds_toArray, List.set_cons_succ, List.set_cons_zero]
  rw [hor]
  refine gsem 9 (some 12) (.int .i64 E) rfl (by kernel_rfl) (by kernel_rfl) (by kernel_rfl) (fun _ _ _ h => h) (by kernel_rfl) (by kernel_rfl) (fun _ _ => by kernel_rfl) hq7 ?_
  simp only [Act.put, List.setIfInBounds_toArray, List.set_cons_succ, List.set_cons_zero]
  refine wpAnyH_done (by kernel_rfl) ?_ _
  try simp only [Act.put, List.setIfInBounds_toArray, List.set_cons_succ, List.set_cons_zero]
  replace LL := hide hq7
  clear hq0 hq2 hq4 hq6 hq7 hI hb2 hb4 hb6 hS0 H hT
  go_wp2
  go_ret2
  exact ⟨rfl, (unhide LL).fr.below⟩
set_option maxHeartbeats 4000000 in
set_option maxRecDepth 100000 in
theorem add14_good (h : HP) (n : Nat) (p : VV) (w : World) (H : h.Is w n) (hT : Lib.Utf8Tabs 1 2 w) (he : addE h p = 0) : Calls Tryd.prog 14 #[.pointer (some ⟨h.b, 0, none⟩), .int .i64 1, p.agg, .iface 54 (.agg #[]), .nilIface] w (AddOk w n h p) := by
  have LL := hide (Hq.nil w [])
  obtain ⟨A0, c0, hgv⟩ := H.form
  obtain ⟨hb, gv, l, cap, fu, dp⟩ := h
  dsimp only at hgv
  subst hgv
  have hor : orE [checkE l.length p, protoE p, roomE (HP.mk hb (.slice A0 l.length c0) l cap fu dp)] = 0 := he
  rw [vagg]
  go_enter Tryd.func14, Tryd.ntmps14
  go_wp2_with (first | go_skip | ((with_reducible show wpList _ _ _ _ _ _); first | ((refine bx 35 (p.cs) (by rfl) rfl rfl rfl (Nat.succ_pos _) (unhide LL) ?_); intro X7 B7 hE7 L7 hb7; have hB7 := hide (Nat.le_trans (unhide LL).fr.size (Nat.le_of_eq hE7.symm)); replace LL := hide L7; clear L7 hb7 hE7; simp only [Act.put, List.setIfInBounds_toArray, List.set_cons_succ, List.set_cons_zero])))
  have hq0 : Hq w _ [] [(B7, p.cs)] := (unhide LL).drew
  refine wp_region_held_drew (P := Tryd.prog) (S := fun X => Hq w X [] [(B7, p.cs)]) (by kernel_rfl) hq0 (fun hS0 => ?_)
  refine gsem 0 (some 13) (.pointer (some ⟨hb, 0, none⟩)) rfl (by kernel_rfl) (by kernel_rfl) (by kernel_rfl) (fun _ _ _ h => h) (by kernel_rfl) (by kernel_rfl) (fun _ _ => by kernel_rfl) hq0 ?_
  simp only [Act.put, List.setIfInBounds_toArray, List.set_cons_succ, List.set_cons_zero]
  refine gsem 1 (some 14) (.agg p.cs.toArray) rfl (by kernel_rfl) (by kernel_rfl) (by kernel_rfl) (fun _ _ _ h => h) (by kernel_rfl) (by kernel_rfl) (fun X hX => ex_loadN (vs := p.cs) 35 5 row35 siz35 rfl rfl (hX.get 0 rfl) rfl rfl) hq0 ?_
  simp only [Act.put, List.setIfInBounds_toArray, List.set_cons_succ, List.set_cons_zero]
  refine gsem 3 (some 16) (.agg p.cs.toArray) rfl (by kernel_rfl) (by kernel_rfl) (by kernel_rfl) (fun _ _ _ h => h) (by kernel_rfl) (by kernel_rfl) (fun X hX => ex_loadN (vs := p.cs) 35 5 row35 siz35 rfl rfl (hX.get 0 rfl) rfl rfl) hq0 ?_
  simp only [Act.put, List.setIfInBounds_toArray, List.set_cons_succ, List.set_cons_zero]
  refine gsem 5 (some 18) (.pointer (some ⟨hb, 0, none⟩)) rfl (by kernel_rfl) (by kernel_rfl) (by kernel_rfl) (fun _ _ _ h => h) (by kernel_rfl) (by kernel_rfl) (fun _ _ => by kernel_rfl) hq0 ?_
  simp only [Act.put, List.setIfInBounds_toArray, List.set_cons_succ, List.set_cons_zero]
  refine wpAnyH_ready (rs := [2]) (by kernel_rfl) (by simp) (gcallR 2 (some 15) rfl (by kernel_rfl) (by kernel_rfl) (by kernel_rfl) (check21 _ n p _ (H.fr hq0.fr) (tabs_below hT hq0.fr.below)) ?_ AllReadyH.nil)
  rintro e2 X2 ⟨rfl, hb2⟩
  have hq2 := hq0.on hb2
  refine ⟨_, rfl, hq2, ?_⟩
  simp only [Act.put, List.setIfInBounds_toArray, List.set_cons_succ, List.set_cons_zero]
  refine wpAnyH_ready (rs := [4]) (by kernel_rfl) (by simp) (gcallR 4 (some 17) rfl (by kernel_rfl) (by kernel_rfl) (by kernel_rfl) (protoKind22 p _) ?_ AllReadyH.nil)
  rintro e4 X4 ⟨rfl, hb4⟩
  have hq4 := hq2.on hb4
  refine ⟨_, rfl, hq4, ?_⟩
  simp only [Act.put, List.setIfInBounds_toArray, List.set_cons_succ, List.set_cons_zero]
  refine wpAnyH_ready (rs := [6]) (by kernel_rfl) (by simp) (gcallR 6 (some 19) rfl (by kernel_rfl) (by kernel_rfl) (by kernel_rfl) (room23 _ n _ (H.fr hq4.fr)) ?_ AllReadyH.nil)
  rintro e6 X6 ⟨rfl, hb6⟩
  have hq6 := hq4.on hb6
  refine ⟨_, rfl, hq6, ?_⟩
  simp only [Act.put, List.setIfInBounds_toArray, List.set_cons_succ, List.set_cons_zero]
  have hI := Holds.new X6 (ints [checkE l.length p, protoE p, roomE (HP.mk hb (.slice A0 l.length c0) l cap fu dp)]) 25
  have hq7 := hq6.on (bl X6 (Obj.cells (ints [checkE l.length p, protoE p, roomE (HP.mk hb (.slice A0 l.length c0) l cap fu dp)]).toArray 25))
  refine wpAnyH_ready (rs := [7]) (by kernel_rfl) (by simp) (gval 7 (some 20) rfl (by kernel_rfl) (by kernel_rfl) (ex_build84 (checkE l.length p) (protoE p) (roomE (HP.mk hb (.slice A0 l.length c0) l cap fu dp)) rfl rfl rfl rfl) hq7 ?_ AllReadyH.nil)
  simp only [Act.put, List.setIfInBounds_toArray, List.set_cons_succ, List.set_cons_zero]
  refine wpAnyH_ready (rs := [8]) (by kernel_rfl) (by simp) (gcallR 8 (some 21) rfl (by kernel_rfl) (by kernel_rfl) (by kernel_rfl) (or20 _ 3 [checkE l.length p, protoE p, roomE (HP.mk hb (.slice A0 l.length c0) l cap fu dp)] _ hI (by simp)) ?_ AllReadyH.nil)
  rintro e8 X8 ⟨rfl, rfl⟩
  refine ⟨_, rfl, hq7, ?_⟩
  simp only [Act.put, List.setIfInBounds_toArray, List.set_cons_succ, List.set_cons_zero]
  rw [hor]
  refine gsem 9 (some 12) (.int .i64 0) rfl (by kernel_rfl) (by kernel_rfl) (by kernel_rfl) (fun _ _ _ h => h) (by kernel_rfl) (by kernel_rfl) (fun _ _ => by kernel_rfl) hq7 ?_
  simp only [Act.put, List.setIfInBounds_toArray, List.set_cons_succ, List.set_cons_zero]
  refine wpAnyH_done (by kernel_rfl) ?_ _
  try simp only [Act.put, List.setIfInBounds_toArray, List.set_cons_succ, List.set_cons_zero]
  go_wp2
  have hq9 : Hq w _ [] [(B7, p.cs)] := hq7.drew
  have hB7 : w.heap.size ≤ B7 := unhide hB7
  clear hq0 hq2 hq4 hq6 hI hb2 hb4 hb6 hS0
  refine wp_region_held_drew (P := Tryd.prog) (S := fun X => Holds X B7 p.cs) (by kernel_rfl) (hq9.get 0 rfl) (fun hS0 => ?_)
  refine gsem 0 (some 26) (.pointer (some ⟨hb, 0, none⟩)) rfl (by kernel_rfl) (by kernel_rfl) (by kernel_rfl) (fun _ _ _ h => h) (by kernel_rfl) (by kernel_rfl) (fun _ _ => by kernel_rfl) (hq9.get 0 rfl) ?_
  simp only [Act.put, List.setIfInBounds_toArray, List.set_cons_succ, List.set_cons_zero]
  refine gsem 1 (some 27) (.pointer (some ⟨hb, 0, none⟩)) rfl (by kernel_rfl) (by kernel_rfl) (by kernel_rfl) (fun _ _ _ h => h) (by kernel_rfl) (by kernel_rfl) (fun _ _ => by kernel_rfl) (hq9.get 0 rfl) ?_
  simp only [Act.put, List.setIfInBounds_toArray, List.set_cons_succ, List.set_cons_zero]
  refine gsem 2 (some 28) (.pointer (some ⟨hb, 0, none⟩)) rfl (by kernel_rfl) (by kernel_rfl) (by kernel_rfl) (fun _ _ _ h => h) (by kernel_rfl) (by kernel_rfl) (fun _ _ => by kernel_rfl) (hq9.get 0 rfl) ?_
  simp only [Act.put, List.setIfInBounds_toArray, List.set_cons_succ, List.set_cons_zero]
  refine gsem 3 (some 29) (.pointer (some ⟨hb, 0, none⟩)) rfl (by kernel_rfl) (by kernel_rfl) (by kernel_rfl) (fun _ _ _ h => h) (by kernel_rfl) (by kernel_rfl) (fun _ _ => by kernel_rfl) (hq9.get 0 rfl) ?_
  simp only [Act.put, List.setIfInBounds_toArray, List.set_cons_succ, List.set_cons_zero]
  refine gsem 5 (some 31) (.int .i64 1) rfl (by kernel_rfl) (by kernel_rfl) (by kernel_rfl) (fun _ _ _ h => h) (by kernel_rfl) (by kernel_rfl) (fun _ _ => by kernel_rfl) (hq9.get 0 rfl) ?_
  simp only [Act.put, List.setIfInBounds_toArray, List.set_cons_succ, List.set_cons_zero]
  refine gsem 6 (some 32) (.agg p.cs.toArray) rfl (by kernel_rfl) (by kernel_rfl) (by kernel_rfl) (fun _ _ _ h => h) (by kernel_rfl) (by kernel_rfl) (fun X hX => ex_loadN (vs := p.cs) 35 5 row35 siz35 rfl rfl (hX) rfl rfl) (hq9.get 0 rfl) ?_
  simp only [Act.put, List.setIfInBounds_toArray, List.set_cons_succ, List.set_cons_zero]
  refine gsem 8 (some 34) (.iface 54 (.agg #[])) rfl (by kernel_rfl) (by kernel_rfl) (by kernel_rfl) (fun _ _ _ h => h) (by kernel_rfl) (by kernel_rfl) (fun _ _ => by kernel_rfl) (hq9.get 0 rfl) ?_
  simp only [Act.put, List.setIfInBounds_toArray, List.set_cons_succ, List.set_cons_zero]
  refine gsem 9 (some 35) (.nilIface) rfl (by kernel_rfl) (by kernel_rfl) (by kernel_rfl) (fun _ _ _ h => h) (by kernel_rfl) (by kernel_rfl) (fun _ _ => by kernel_rfl) (hq9.get 0 rfl) ?_
  simp only [Act.put, List.setIfInBounds_toArray, List.set_cons_succ, List.set_cons_zero]
  refine wpAnyH_ready (rs := [4, 7]) (by kernel_rfl) (by simp) (gval 4 (some 30) rfl (by kernel_rfl) (by kernel_rfl) (ex_load1 (v := .slice A0 l.length c0) 49 Tryd.isAgg49 rfl rfl (H.fr hq9.fr).blk rfl) (hq9.get 0 rfl) ?_ (gcallR 7 (some 33) rfl (by kernel_rfl) (by kernel_rfl) (by kernel_rfl) (new24 _) ?_ AllReadyH.nil))
  · simp only [Act.put, List.setIfInBounds_toArray, List.set_cons_succ, List.set_cons_zero]
    refine wpAnyH_ready (rs := [7]) (by kernel_rfl) (by simp) (gcallR 7 (some 33) rfl (by kernel_rfl) (by kernel_rfl) (by kernel_rfl) (new24 _) ?_ AllReadyH.nil)
    rintro e10 X10 ⟨t, m, rfl, htb, ht, hm, hb10⟩
    have hq10 := hq9.on hb10
    refine ⟨_, rfl, hq10.get 0 rfl, ?_⟩
    simp only [Act.put, List.setIfInBounds_toArray, List.set_cons_succ, List.set_cons_zero]
    refine gsem 10 (some 36) (.agg (OB.mk 0 t m p).cs.toArray) rfl (by kernel_rfl) (by kernel_rfl) (by kernel_rfl) (fun _ _ _ h => h) (by kernel_rfl) (by kernel_rfl) (fun X hX => ex_build79 p t m rfl rfl rfl rfl rfl rfl rfl) (hq10.get 0 rfl) ?_
    simp only [Act.put, List.setIfInBounds_toArray, List.set_cons_succ, List.set_cons_zero]
    have hw10 : w.heap.size ≤ X10.heap.size := hq10.fr.size
    have htw := htb.lt
    have ht2 : w.heap.size ≤ t := Nat.le_trans hq9.fr.size ht
    have hm2 : w.heap.size ≤ m := Nat.le_trans hq9.fr.size hm
    have hH11 := Holds.new X10 (OB.mk 0 t m p).cs 79
    have hb11 := bl X10 (Obj.cells (OB.mk 0 t m p).cs.toArray 79)
    have hz11 : (X10.alloc (Obj.cells (OB.mk 0 t m p).cs.toArray 79)).heap.size = X10.heap.size + 1 := by simp
    refine wpAnyH_ready (rs := [11]) (by kernel_rfl) (by simp) (gval 11 (some 37) rfl (by kernel_rfl) (by kernel_rfl) (ex_box 79 (OB.mk 0 t m p).cs rfl rfl rfl) ((hq10.on hb11).get 0 rfl) ?_ AllReadyH.nil)
    simp only [Act.put, List.setIfInBounds_toArray, List.set_cons_succ, List.set_cons_zero]
    obtain ⟨X11, hX11⟩ : ∃ X11, X11 = X10.alloc (Obj.cells (OB.mk 0 t m p).cs.toArray 79) := ⟨_, rfl⟩
    rw [← hX11] at hH11 hb11 hz11 ⊢
    have hq11 := hq10.on hb11
    have ht11 := htb.fr (Fr.of_below hb11 [])
    have hH12 := Holds.new X11 [.pointer (some ⟨X10.heap.size, 0, none⟩)] 55
    have hb12 := bl X11 (Obj.cells [.pointer (some ⟨X10.heap.size, 0, none⟩)].toArray 55)
    refine wpAnyH_ready (rs := [12]) (by kernel_rfl) (by simp) (gval 12 (some 38) rfl (by kernel_rfl) (by kernel_rfl) (ex_buildS (t := 49) (e := 55) (v := .pointer (some ⟨X10.heap.size, 0, none⟩)) (cs := [.pointer (some ⟨X10.heap.size, 0, none⟩)]) rfl rfl Tryd.underlying49 inf55 (by decide) rfl rfl (by decide)) ((hq11.on hb12).get 0 rfl) ?_ AllReadyH.nil)
    simp only [Act.put, List.setIfInBounds_toArray, List.set_cons_succ, List.set_cons_zero]
    obtain ⟨X12, hX12⟩ : ∃ X12, X12 = X11.alloc (Obj.cells [.pointer (some ⟨X10.heap.size, 0, none⟩)].toArray 55) := ⟨_, rfl⟩
    rw [← hX12] at hH12 hb12 ⊢
    have hq12 := hq11.on hb12
    have hOB : OB.Is X12 ⟨X10.heap.size, t, m, p⟩ := ⟨hH11.block (hb12.block _ (by omega)), ht11.fr (Fr.of_below hb12 [])⟩
    have hown : X12.ownsRow n 55 1 (.slice A0 l.length c0) l.length (l.map OB.ptr) := (H.fr hq12.fr).own
    have hlim : (l.length : Int) < cap := addE_room he
    have hcap : cap ≤ 65536 := H.lim.2
    have hgw : ∀ g, (Value.slice A0 l.length c0).ownBlock = some g → g < w.heap.size := fun g hg => (World.ownsRow.lt H.own g hg).2
    have hbw : hb < w.heap.size := H.lt hb (by simp [HP.blocks])
    have hS13 : ∀ X, X12.grownBy X (Value.slice A0 l.length c0).ownBlock → Holds X B7 p.cs := fun X hg => (hq12.get 0 rfl).block (hg.block B7 (hq12.lt _ (List.mem_singleton.2 rfl)) (fun e => by have := hgw B7 e.symm; omega))
    refine wpAnyH_ready (rs := [13]) (by kernel_rfl) (by simp) (gappF (base := n) (size := 1) (bytes := 8) (k := l.length) (m := 1) (news := [.pointer (some ⟨X10.heap.size, 0, none⟩)]) (xs := l.map OB.ptr) (v := .slice A0 l.length c0) 13 (some 39) rfl (by kernel_rfl) (by kernel_rfl) rfl rfl rfl Tryd.underlying49 inf55 rfl (by decide) hown hH12 rfl (by simp [Value.oneCell']) (by omega) (by decide) (Nat.le_trans H.base (Nat.le_trans (Nat.le_of_lt hbw) hq12.fr.size)) hS13 ?_ AllReadyH.nil)
    intro A c X13 hO13 hg13 hF13
    simp only [Act.put, List.setIfInBounds_toArray, List.set_cons_succ, List.set_cons_zero]
    obtain ⟨hIs, hFr, hBk⟩ := HP.Is.add (o := ⟨X10.heap.size, t, m, p⟩) H hq12.fr hOB (fun b hb => by simp [OB.blocks] at hb; rcases hb with rfl | rfl | rfl <;> omega) hO13 hg13 hF13 hlim
    have hH13 : Holds X13 hb (hcs (HP.mk hb (.slice A0 l.length c0) l cap fu dp)) := (H.fr hq12.fr).blk.block (hg13.block hb (Nat.lt_of_lt_of_le hbw hq12.fr.size) (fun e => H.sep.2.1 e.symm))
    refine gsem 14 (some 40) (.pointer (some ⟨hb, 0, none⟩)) rfl (by kernel_rfl) (by kernel_rfl) (by kernel_rfl) (fun _ _ _ h => h) (by kernel_rfl) (by kernel_rfl) (fun _ _ => by kernel_rfl) (hS13 _ hg13) ?_
    simp only [Act.put, List.setIfInBounds_toArray, List.set_cons_succ, List.set_cons_zero]
    refine gsem 15 (some 41) (.pointer (some ⟨hb, 0, none⟩)) rfl (by kernel_rfl) (by kernel_rfl) (by kernel_rfl) (fun _ _ _ h => h) (by kernel_rfl) (by kernel_rfl) (fun _ _ => by kernel_rfl) (hS13 _ hg13) ?_
    simp only [Act.put, List.setIfInBounds_toArray, List.set_cons_succ, List.set_cons_zero]
    refine wpAnyH_ready (rs := [16]) (by kernel_rfl) (by simp) (gskp 16 none rfl (by kernel_rfl) (by kernel_rfl) (ex_store (t := 49) (vs := [.slice A (l.length + 1) c]) rfl rfl rfl rfl (by simp [Value.oneCell']) siz49 hH13 (by simp [hcs])) ((hS13 _ hg13).block (heap_setCells hb _ 0 X13 B7 (by omega))) ?_ AllReadyH.nil)
    simp only [Act.put, List.setIfInBounds_toArray, List.set_cons_succ, List.set_cons_zero]
    refine wpAnyH_done (by kernel_rfl) ?_ _
    try simp only [Act.put, List.setIfInBounds_toArray, List.set_cons_succ, List.set_cons_zero]
    have HIs := hide hIs
    have HPost : Hid (Fr w (X13.setCells hb 0 [.slice A (l.length + 1) c]) (hb :: (Value.slice A0 l.length c0).ownBlock.toList) ∧ (∀ g, (Value.slice A (l.length + 1) c).ownBlock = some g → (Value.slice A0 l.length c0).ownBlock = some g ∨ w.heap.size ≤ g) ∧ ∀ b ∈ (OB.mk X10.heap.size t m p).blocks, w.heap.size ≤ b) := hide ⟨hFr, hBk, fun b hb => by simp [OB.blocks] at hb; rcases hb with rfl | rfl | rfl <;> omega⟩
    obtain ⟨Z, hZ⟩ : ∃ Z, Z = X13.setCells hb 0 [.slice A (l.length + 1) c] := ⟨_, rfl⟩
    rw [← hZ] at HIs HPost ⊢
    clear hS0 hq7 hq9 hq10 hq11 hq12 hH11 hH12 hH13 hb10 hb11 hb12 hO13 hg13 hF13 hIs hFr hBk hS13 hown hOB ht11 htb htw hX11 hX12 hZ hgw
    go_wp2_with fail
    refine (len8 _ n _ (unhide HIs)).mono ?_
    rintro _ Y ⟨rfl, rfl⟩
    go_wp2
    go_ret2
    exact ⟨⟨X10.heap.size, t, m, p⟩, _, rfl, rfl, unhide HIs, (unhide HPost).1, (unhide HPost).2.1, (unhide HPost).2.2⟩
  · rintro e10 X10 ⟨t, m, rfl, htb, ht, hm, hb10⟩
    have hq10 := hq9.on hb10
    refine ⟨_, rfl, hq10.get 0 rfl, ?_⟩
    simp only [Act.put, List.setIfInBounds_toArray, List.set_cons_succ, List.set_cons_zero]
    refine gsem 10 (some 36) (.agg (OB.mk 0 t m p).cs.toArray) rfl (by kernel_rfl) (by kernel_rfl) (by kernel_rfl) (fun _ _ _ h => h) (by kernel_rfl) (by kernel_rfl) (fun X hX => ex_build79 p t m rfl rfl rfl rfl rfl rfl rfl) (hq10.get 0 rfl) ?_
    simp only [Act.put, List.setIfInBounds_toArray, List.set_cons_succ, List.set_cons_zero]
    have hw10 : w.heap.size ≤ X10.heap.size := hq10.fr.size
    have htw := htb.lt
    have ht2 : w.heap.size ≤ t := Nat.le_trans hq9.fr.size ht
    have hm2 : w.heap.size ≤ m := Nat.le_trans hq9.fr.size hm
    have hH11 := Holds.new X10 (OB.mk 0 t m p).cs 79
    have hb11 := bl X10 (Obj.cells (OB.mk 0 t m p).cs.toArray 79)
    have hz11 : (X10.alloc (Obj.cells (OB.mk 0 t m p).cs.toArray 79)).heap.size = X10.heap.size + 1 := by simp
    refine wpAnyH_ready (rs := [4, 11]) (by kernel_rfl) (by simp) (gval 4 (some 30) rfl (by kernel_rfl) (by kernel_rfl) (ex_load1 (v := .slice A0 l.length c0) 49 Tryd.isAgg49 rfl rfl (H.fr hq10.fr).blk rfl) (hq10.get 0 rfl) ?_ (gval 11 (some 37) rfl (by kernel_rfl) (by kernel_rfl) (ex_box 79 (OB.mk 0 t m p).cs rfl rfl rfl) ((hq10.on hb11).get 0 rfl) ?_ AllReadyH.nil))
    · simp only [Act.put, List.setIfInBounds_toArray, List.set_cons_succ, List.set_cons_zero]
      refine wpAnyH_ready (rs := [11]) (by kernel_rfl) (by simp) (gval 11 (some 37) rfl (by kernel_rfl) (by kernel_rfl) (ex_box 79 (OB.mk 0 t m p).cs rfl rfl rfl) ((hq10.on hb11).get 0 rfl) ?_ AllReadyH.nil)
      simp only [Act.put, List.setIfInBounds_toArray, List.set_cons_succ, List.set_cons_zero]
      obtain ⟨X11, hX11⟩ : ∃ X11, X11 = X10.alloc (Obj.cells (OB.mk 0 t m p).cs.toArray 79) := ⟨_, rfl⟩
      rw [← hX11] at hH11 hb11 hz11 ⊢
      have hq11 := hq10.on hb11
      have ht11 := htb.fr (Fr.of_below hb11 [])
      have hH12 := Holds.new X11 [.pointer (some ⟨X10.heap.size, 0, none⟩)] 55
      have hb12 := bl X11 (Obj.cells [.pointer (some ⟨X10.heap.size, 0, none⟩)].toArray 55)
      refine wpAnyH_ready (rs := [12]) (by kernel_rfl) (by simp) (gval 12 (some 38) rfl (by kernel_rfl) (by kernel_rfl) (ex_buildS (t := 49) (e := 55) (v := .pointer (some ⟨X10.heap.size, 0, none⟩)) (cs := [.pointer (some ⟨X10.heap.size, 0, none⟩)]) rfl rfl Tryd.underlying49 inf55 (by decide) rfl rfl (by decide)) ((hq11.on hb12).get 0 rfl) ?_ AllReadyH.nil)
      simp only [Act.put, List.setIfInBounds_toArray, List.set_cons_succ, List.set_cons_zero]
      obtain ⟨X12, hX12⟩ : ∃ X12, X12 = X11.alloc (Obj.cells [.pointer (some ⟨X10.heap.size, 0, none⟩)].toArray 55) := ⟨_, rfl⟩
      rw [← hX12] at hH12 hb12 ⊢
      have hq12 := hq11.on hb12
      have hOB : OB.Is X12 ⟨X10.heap.size, t, m, p⟩ := ⟨hH11.block (hb12.block _ (by omega)), ht11.fr (Fr.of_below hb12 [])⟩
      have hown : X12.ownsRow n 55 1 (.slice A0 l.length c0) l.length (l.map OB.ptr) := (H.fr hq12.fr).own
      have hlim : (l.length : Int) < cap := addE_room he
      have hcap : cap ≤ 65536 := H.lim.2
      have hgw : ∀ g, (Value.slice A0 l.length c0).ownBlock = some g → g < w.heap.size := fun g hg => (World.ownsRow.lt H.own g hg).2
      have hbw : hb < w.heap.size := H.lt hb (by simp [HP.blocks])
      have hS13 : ∀ X, X12.grownBy X (Value.slice A0 l.length c0).ownBlock → Holds X B7 p.cs := fun X hg => (hq12.get 0 rfl).block (hg.block B7 (hq12.lt _ (List.mem_singleton.2 rfl)) (fun e => by have := hgw B7 e.symm; omega))
      refine wpAnyH_ready (rs := [13]) (by kernel_rfl) (by simp) (gappF (base := n) (size := 1) (bytes := 8) (k := l.length) (m := 1) (news := [.pointer (some ⟨X10.heap.size, 0, none⟩)]) (xs := l.map OB.ptr) (v := .slice A0 l.length c0) 13 (some 39) rfl (by kernel_rfl) (by kernel_rfl) rfl rfl rfl Tryd.underlying49 inf55 rfl (by decide) hown hH12 rfl (by simp [Value.oneCell']) (by omega) (by decide) (Nat.le_trans H.base (Nat.le_trans (Nat.le_of_lt hbw) hq12.fr.size)) hS13 ?_ AllReadyH.nil)
      intro A c X13 hO13 hg13 hF13
      simp only [Act.put, List.setIfInBounds_toArray, List.set_cons_succ, List.set_cons_zero]
      obtain ⟨hIs, hFr, hBk⟩ := HP.Is.add (o := ⟨X10.heap.size, t, m, p⟩) H hq12.fr hOB (fun b hb => by simp [OB.blocks] at hb; rcases hb with rfl | rfl | rfl <;> omega) hO13 hg13 hF13 hlim
      have hH13 : Holds X13 hb (hcs (HP.mk hb (.slice A0 l.length c0) l cap fu dp)) := (H.fr hq12.fr).blk.block (hg13.block hb (Nat.lt_of_lt_of_le hbw hq12.fr.size) (fun e => H.sep.2.1 e.symm))
      refine gsem 14 (some 40) (.pointer (some ⟨hb, 0, none⟩)) rfl (by kernel_rfl) (by kernel_rfl) (by kernel_rfl) (fun _ _ _ h => h) (by kernel_rfl) (by kernel_rfl) (fun _ _ => by kernel_rfl) (hS13 _ hg13) ?_
      simp only [Act.put, List.setIfInBounds_toArray, List.set_cons_succ, List.set_cons_zero]
      refine gsem 15 (some 41) (.pointer (some ⟨hb, 0, none⟩)) rfl (by kernel_rfl) (by kernel_rfl) (by kernel_rfl) (fun _ _ _ h => h) (by kernel_rfl) (by kernel_rfl) (fun _ _ => by kernel_rfl) (hS13 _ hg13) ?_
      simp only [Act.put, List.setIfInBounds_toArray, List.set_cons_succ, List.set_cons_zero]
      refine wpAnyH_ready (rs := [16]) (by kernel_rfl) (by simp) (gskp 16 none rfl (by kernel_rfl) (by kernel_rfl) (ex_store (t := 49) (vs := [.slice A (l.length + 1) c]) rfl rfl rfl rfl (by simp [Value.oneCell']) siz49 hH13 (by simp [hcs])) ((hS13 _ hg13).block (heap_setCells hb _ 0 X13 B7 (by omega))) ?_ AllReadyH.nil)
      simp only [Act.put, List.setIfInBounds_toArray, List.set_cons_succ, List.set_cons_zero]
      refine wpAnyH_done (by kernel_rfl) ?_ _
      try simp only [Act.put, List.setIfInBounds_toArray, List.set_cons_succ, List.set_cons_zero]
      have HIs := hide hIs
      have HPost : Hid (Fr w (X13.setCells hb 0 [.slice A (l.length + 1) c]) (hb :: (Value.slice A0 l.length c0).ownBlock.toList) ∧ (∀ g, (Value.slice A (l.length + 1) c).ownBlock = some g → (Value.slice A0 l.length c0).ownBlock = some g ∨ w.heap.size ≤ g) ∧ ∀ b ∈ (OB.mk X10.heap.size t m p).blocks, w.heap.size ≤ b) := hide ⟨hFr, hBk, fun b hb => by simp [OB.blocks] at hb; rcases hb with rfl | rfl | rfl <;> omega⟩
      obtain ⟨Z, hZ⟩ : ∃ Z, Z = X13.setCells hb 0 [.slice A (l.length + 1) c] := ⟨_, rfl⟩
      rw [← hZ] at HIs HPost ⊢
      clear hS0 hq7 hq9 hq10 hq11 hq12 hH11 hH12 hH13 hb10 hb11 hb12 hO13 hg13 hF13 hIs hFr hBk hS13 hown hOB ht11 htb htw hX11 hX12 hZ hgw
      go_wp2_with fail
      refine (len8 _ n _ (unhide HIs)).mono ?_
      rintro _ Y ⟨rfl, rfl⟩
      go_wp2
      go_ret2
      exact ⟨⟨X10.heap.size, t, m, p⟩, _, rfl, rfl, unhide HIs, (unhide HPost).1, (unhide HPost).2.1, (unhide HPost).2.2⟩
    · simp only [Act.put, List.setIfInBounds_toArray, List.set_cons_succ, List.set_cons_zero]
      obtain ⟨X11, hX11⟩ : ∃ X11, X11 = X10.alloc (Obj.cells (OB.mk 0 t m p).cs.toArray 79) := ⟨_, rfl⟩
      rw [← hX11] at hH11 hb11 hz11 ⊢
      have hq11 := hq10.on hb11
      have ht11 := htb.fr (Fr.of_below hb11 [])
      have hH12 := Holds.new X11 [.pointer (some ⟨X10.heap.size, 0, none⟩)] 55
      have hb12 := bl X11 (Obj.cells [.pointer (some ⟨X10.heap.size, 0, none⟩)].toArray 55)
      refine wpAnyH_ready (rs := [4, 12]) (by kernel_rfl) (by simp) (gval 4 (some 30) rfl (by kernel_rfl) (by kernel_rfl) (ex_load1 (v := .slice A0 l.length c0) 49 Tryd.isAgg49 rfl rfl (H.fr hq11.fr).blk rfl) (hq11.get 0 rfl) ?_ (gval 12 (some 38) rfl (by kernel_rfl) (by kernel_rfl) (ex_buildS (t := 49) (e := 55) (v := .pointer (some ⟨X10.heap.size, 0, none⟩)) (cs := [.pointer (some ⟨X10.heap.size, 0, none⟩)]) rfl rfl Tryd.underlying49 inf55 (by decide) rfl rfl (by decide)) ((hq11.on hb12).get 0 rfl) ?_ AllReadyH.nil))
      · simp only [Act.put, List.setIfInBounds_toArray, List.set_cons_succ, List.set_cons_zero]
        refine wpAnyH_ready (rs := [12]) (by kernel_rfl) (by simp) (gval 12 (some 38) rfl (by kernel_rfl) (by kernel_rfl) (ex_buildS (t := 49) (e := 55) (v := .pointer (some ⟨X10.heap.size, 0, none⟩)) (cs := [.pointer (some ⟨X10.heap.size, 0, none⟩)]) rfl rfl Tryd.underlying49 inf55 (by decide) rfl rfl (by decide)) ((hq11.on hb12).get 0 rfl) ?_ AllReadyH.nil)
        simp only [Act.put, List.setIfInBounds_toArray, List.set_cons_succ, List.set_cons_zero]
        obtain ⟨X12, hX12⟩ : ∃ X12, X12 = X11.alloc (Obj.cells [.pointer (some ⟨X10.heap.size, 0, none⟩)].toArray 55) := ⟨_, rfl⟩
        rw [← hX12] at hH12 hb12 ⊢
        have hq12 := hq11.on hb12
        have hOB : OB.Is X12 ⟨X10.heap.size, t, m, p⟩ := ⟨hH11.block (hb12.block _ (by omega)), ht11.fr (Fr.of_below hb12 [])⟩
        have hown : X12.ownsRow n 55 1 (.slice A0 l.length c0) l.length (l.map OB.ptr) := (H.fr hq12.fr).own
        have hlim : (l.length : Int) < cap := addE_room he
        have hcap : cap ≤ 65536 := H.lim.2
        have hgw : ∀ g, (Value.slice A0 l.length c0).ownBlock = some g → g < w.heap.size := fun g hg => (World.ownsRow.lt H.own g hg).2
        have hbw : hb < w.heap.size := H.lt hb (by simp [HP.blocks])
        have hS13 : ∀ X, X12.grownBy X (Value.slice A0 l.length c0).ownBlock → Holds X B7 p.cs := fun X hg => (hq12.get 0 rfl).block (hg.block B7 (hq12.lt _ (List.mem_singleton.2 rfl)) (fun e => by have := hgw B7 e.symm; omega))
        refine wpAnyH_ready (rs := [13]) (by kernel_rfl) (by simp) (gappF (base := n) (size := 1) (bytes := 8) (k := l.length) (m := 1) (news := [.pointer (some ⟨X10.heap.size, 0, none⟩)]) (xs := l.map OB.ptr) (v := .slice A0 l.length c0) 13 (some 39) rfl (by kernel_rfl) (by kernel_rfl) rfl rfl rfl Tryd.underlying49 inf55 rfl (by decide) hown hH12 rfl (by simp [Value.oneCell']) (by omega) (by decide) (Nat.le_trans H.base (Nat.le_trans (Nat.le_of_lt hbw) hq12.fr.size)) hS13 ?_ AllReadyH.nil)
        intro A c X13 hO13 hg13 hF13
        simp only [Act.put, List.setIfInBounds_toArray, List.set_cons_succ, List.set_cons_zero]
        obtain ⟨hIs, hFr, hBk⟩ := HP.Is.add (o := ⟨X10.heap.size, t, m, p⟩) H hq12.fr hOB (fun b hb => by simp [OB.blocks] at hb; rcases hb with rfl | rfl | rfl <;> omega) hO13 hg13 hF13 hlim
        have hH13 : Holds X13 hb (hcs (HP.mk hb (.slice A0 l.length c0) l cap fu dp)) := (H.fr hq12.fr).blk.block (hg13.block hb (Nat.lt_of_lt_of_le hbw hq12.fr.size) (fun e => H.sep.2.1 e.symm))
        refine gsem 14 (some 40) (.pointer (some ⟨hb, 0, none⟩)) rfl (by kernel_rfl) (by kernel_rfl) (by kernel_rfl) (fun _ _ _ h => h) (by kernel_rfl) (by kernel_rfl) (fun _ _ => by kernel_rfl) (hS13 _ hg13) ?_
        simp only [Act.put, List.setIfInBounds_toArray, List.set_cons_succ, List.set_cons_zero]
        refine gsem 15 (some 41) (.pointer (some ⟨hb, 0, none⟩)) rfl (by kernel_rfl) (by kernel_rfl) (by kernel_rfl) (fun _ _ _ h => h) (by kernel_rfl) (by kernel_rfl) (fun _ _ => by kernel_rfl) (hS13 _ hg13) ?_
        simp only [Act.put, List.setIfInBounds_toArray, List.set_cons_succ, List.set_cons_zero]
        refine wpAnyH_ready (rs := [16]) (by kernel_rfl) (by simp) (gskp 16 none rfl (by kernel_rfl) (by kernel_rfl) (ex_store (t := 49) (vs := [.slice A (l.length + 1) c]) rfl rfl rfl rfl (by simp [Value.oneCell']) siz49 hH13 (by simp [hcs])) ((hS13 _ hg13).block (heap_setCells hb _ 0 X13 B7 (by omega))) ?_ AllReadyH.nil)
        simp only [Act.put, List.setIfInBounds_toArray, List.set_cons_succ, List.set_cons_zero]
        refine wpAnyH_done (by kernel_rfl) ?_ _
        try simp only [Act.put, List.setIfInBounds_toArray, List.set_cons_succ, List.set_cons_zero]
        have HIs := hide hIs
        have HPost : Hid (Fr w (X13.setCells hb 0 [.slice A (l.length + 1) c]) (hb :: (Value.slice A0 l.length c0).ownBlock.toList) ∧ (∀ g, (Value.slice A (l.length + 1) c).ownBlock = some g → (Value.slice A0 l.length c0).ownBlock = some g ∨ w.heap.size ≤ g) ∧ ∀ b ∈ (OB.mk X10.heap.size t m p).blocks, w.heap.size ≤ b) := hide ⟨hFr, hBk, fun b hb => by simp [OB.blocks] at hb; rcases hb with rfl | rfl | rfl <;> omega⟩
        obtain ⟨Z, hZ⟩ : ∃ Z, Z = X13.setCells hb 0 [.slice A (l.length + 1) c] := ⟨_, rfl⟩
        rw [← hZ] at HIs HPost ⊢
        clear hS0 hq7 hq9 hq10 hq11 hq12 hH11 hH12 hH13 hb10 hb11 hb12 hO13 hg13 hF13 hIs hFr hBk hS13 hown hOB ht11 htb htw hX11 hX12 hZ hgw
        go_wp2_with fail
        refine (len8 _ n _ (unhide HIs)).mono ?_
        rintro _ Y ⟨rfl, rfl⟩
        go_wp2
        go_ret2
        exact ⟨⟨X10.heap.size, t, m, p⟩, _, rfl, rfl, unhide HIs, (unhide HPost).1, (unhide HPost).2.1, (unhide HPost).2.2⟩
      · simp only [Act.put, List.setIfInBounds_toArray, List.set_cons_succ, List.set_cons_zero]
        obtain ⟨X12, hX12⟩ : ∃ X12, X12 = X11.alloc (Obj.cells [.pointer (some ⟨X10.heap.size, 0, none⟩)].toArray 55) := ⟨_, rfl⟩
        rw [← hX12] at hH12 hb12 ⊢
        have hq12 := hq11.on hb12
        refine wpAnyH_ready (rs := [4]) (by kernel_rfl) (by simp) (gval 4 (some 30) rfl (by kernel_rfl) (by kernel_rfl) (ex_load1 (v := .slice A0 l.length c0) 49 Tryd.isAgg49 rfl rfl (H.fr hq12.fr).blk rfl) (hq12.get 0 rfl) ?_ AllReadyH.nil)
        simp only [Act.put, List.setIfInBounds_toArray, List.set_cons_succ, List.set_cons_zero]
        have hOB : OB.Is X12 ⟨X10.heap.size, t, m, p⟩ := ⟨hH11.block (hb12.block _ (by omega)), ht11.fr (Fr.of_below hb12 [])⟩
        have hown : X12.ownsRow n 55 1 (.slice A0 l.length c0) l.length (l.map OB.ptr) := (H.fr hq12.fr).own
        have hlim : (l.length : Int) < cap := addE_room he
        have hcap : cap ≤ 65536 := H.lim.2
        have hgw : ∀ g, (Value.slice A0 l.length c0).ownBlock = some g → g < w.heap.size := fun g hg => (World.ownsRow.lt H.own g hg).2
        have hbw : hb < w.heap.size := H.lt hb (by simp [HP.blocks])
        have hS13 : ∀ X, X12.grownBy X (Value.slice A0 l.length c0).ownBlock → Holds X B7 p.cs := fun X hg => (hq12.get 0 rfl).block (hg.block B7 (hq12.lt _ (List.mem_singleton.2 rfl)) (fun e => by have := hgw B7 e.symm; omega))
        refine wpAnyH_ready (rs := [13]) (by kernel_rfl) (by simp) (gappF (base := n) (size := 1) (bytes := 8) (k := l.length) (m := 1) (news := [.pointer (some ⟨X10.heap.size, 0, none⟩)]) (xs := l.map OB.ptr) (v := .slice A0 l.length c0) 13 (some 39) rfl (by kernel_rfl) (by kernel_rfl) rfl rfl rfl Tryd.underlying49 inf55 rfl (by decide) hown hH12 rfl (by simp [Value.oneCell']) (by omega) (by decide) (Nat.le_trans H.base (Nat.le_trans (Nat.le_of_lt hbw) hq12.fr.size)) hS13 ?_ AllReadyH.nil)
        intro A c X13 hO13 hg13 hF13
        simp only [Act.put, List.setIfInBounds_toArray, List.set_cons_succ, List.set_cons_zero]
        obtain ⟨hIs, hFr, hBk⟩ := HP.Is.add (o := ⟨X10.heap.size, t, m, p⟩) H hq12.fr hOB (fun b hb => by simp [OB.blocks] at hb; rcases hb with rfl | rfl | rfl <;> omega) hO13 hg13 hF13 hlim
        have hH13 : Holds X13 hb (hcs (HP.mk hb (.slice A0 l.length c0) l cap fu dp)) := (H.fr hq12.fr).blk.block (hg13.block hb (Nat.lt_of_lt_of_le hbw hq12.fr.size) (fun e => H.sep.2.1 e.symm))
        refine gsem 14 (some 40) (.pointer (some ⟨hb, 0, none⟩)) rfl (by kernel_rfl) (by kernel_rfl) (by kernel_rfl) (fun _ _ _ h => h) (by kernel_rfl) (by kernel_rfl) (fun _ _ => by kernel_rfl) (hS13 _ hg13) ?_
        simp only [Act.put, List.setIfInBounds_toArray, List.set_cons_succ, List.set_cons_zero]
        refine gsem 15 (some 41) (.pointer (some ⟨hb, 0, none⟩)) rfl (by kernel_rfl) (by kernel_rfl) (by kernel_rfl) (fun _ _ _ h => h) (by kernel_rfl) (by kernel_rfl) (fun _ _ => by kernel_rfl) (hS13 _ hg13) ?_
        simp only [Act.put, List.setIfInBounds_toArray, List.set_cons_succ, List.set_cons_zero]
        refine wpAnyH_ready (rs := [16]) (by kernel_rfl) (by simp) (gskp 16 none rfl (by kernel_rfl) (by kernel_rfl) (ex_store (t := 49) (vs := [.slice A (l.length + 1) c]) rfl rfl rfl rfl (by simp [Value.oneCell']) siz49 hH13 (by simp [hcs])) ((hS13 _ hg13).block (heap_setCells hb _ 0 X13 B7 (by omega))) ?_ AllReadyH.nil)
        simp only [Act.put, List.setIfInBounds_toArray, List.set_cons_succ, List.set_cons_zero]
        refine wpAnyH_done (by kernel_rfl) ?_ _
        try simp only [Act.put, List.setIfInBounds_toArray, List.set_cons_succ, List.set_cons_zero]
        have HIs := hide hIs
        have HPost : Hid (Fr w (X13.setCells hb 0 [.slice A (l.length + 1) c]) (hb :: (Value.slice A0 l.length c0).ownBlock.toList) ∧ (∀ g, (Value.slice A (l.length + 1) c).ownBlock = some g → (Value.slice A0 l.length c0).ownBlock = some g ∨ w.heap.size ≤ g) ∧ ∀ b ∈ (OB.mk X10.heap.size t m p).blocks, w.heap.size ≤ b) := hide ⟨hFr, hBk, fun b hb => by simp [OB.blocks] at hb; rcases hb with rfl | rfl | rfl <;> omega⟩
        obtain ⟨Z, hZ⟩ : ∃ Z, Z = X13.setCells hb 0 [.slice A (l.length + 1) c] := ⟨_, rfl⟩
        rw [← hZ] at HIs HPost ⊢
        clear hS0 hq7 hq9 hq10 hq11 hq12 hH11 hH12 hH13 hb10 hb11 hb12 hO13 hg13 hF13 hIs hFr hBk hS13 hown hOB ht11 htb htw hX11 hX12 hZ hgw
        go_wp2_with fail
        refine (len8 _ n _ (unhide HIs)).mono ?_
        rintro _ Y ⟨rfl, rfl⟩
        go_wp2
        go_ret2
        exact ⟨⟨X10.heap.size, t, m, p⟩, _, rfl, rfl, unhide HIs, (unhide HPost).1, (unhide HPost).2.1, (unhide HPost).2.2⟩
end Go.Proofs.YtmfhjbmgbbkicaaDoor
