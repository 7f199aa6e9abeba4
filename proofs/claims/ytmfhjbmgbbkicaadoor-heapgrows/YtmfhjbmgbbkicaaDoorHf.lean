import Derived.Test.YtmfhjbmgbbkicaaDoorHe
namespace Go.Proofs.YtmfhjbmgbbkicaaDoor
open Go Go.Proofs Go.Maps Go.RowKit FM
set_option linter.unusedSimpArgs false
set_option linter.unusedVariables false
set_option maxHeartbeats 1000000
theorem ex_build38 {o : Oper} {a : Act} {w : World} {x0 x1 x2 x3 : Operand} (p : VV) (A : Option Addr) (c : Nat) (ho : o.op = .build 38 #[(0, x0), (1, x1), (2, x2), (3, x3)]) (h0 : a.eval x0 = .int .i64 1) (h1 : a.eval x1 = .agg p.cs.toArray) (h2 : a.eval x2 = .bool true) (h3 : a.eval x3 = .slice A 0 c) : (execOp a.eval o).run Tryd.prog w = .ok (.value (.agg (shc p A c).toArray)) w := by
  have e : (Instr.build 38 #[(0, .int .i64 1), (1, .agg p.cs.toArray), (2, .bool true), (3, .slice A 0 c)]).run Tryd.prog w = .ok (.agg (shc p A c).toArray) w := by kernel_rfl
  unfold execOp
  simp only [ho]
  simp [h0, h1, h2, h3, e]
theorem zshc_put (p : VV) (A : Option Addr) (c : Nat) : cput zshc 0 (shc p A c) = shc p A c := by simp [cput, shc, zshc, VV.cs]
set_option maxRecDepth 100000 in
theorem shape15 (o : OB) (w : World) (H : o.Is w) : Calls Tryd.prog 15 #[.pointer (some ⟨o.b, 0, none⟩)] w fun e w' => ∃ A c, e = .returned (.agg (shc o.p A c).toArray) ∧ Below w.heap.size w w' := by
  have LL := hide (Hq.nil w [])
  go_enter Tryd.func15, Tryd.ntmps15
  go_wp2_with (first | go_skip | ((with_reducible show wpList _ _ _ _ _ _); first | ((refine alG 38 (zshc) (by rfl) rfl (fun w => by kernel_rfl) (Nat.succ_pos _) (unhide LL) ?_); intro X2 B2 hE2 L2 hb2; have hB2 := hide (Nat.le_trans (unhide LL).fr.size (Nat.le_of_eq hE2.symm)); replace LL := hide L2; clear L2 hb2 hE2; simp only [Act.put, List.setIfInBounds_toArray, List.set_cons_succ, List.set_cons_zero])))
  have hq0 : Hq w _ [] [(B2, zshc)] := (unhide LL).drew
  refine wp_region_held_drew (P := Tryd.prog) (S := fun X => Fr w X []) (by kernel_rfl) hq0.fr (fun hS0 => ?_)
  refine gsem 0 (some 3) (.pointer (some ⟨o.b, 0, none⟩)) rfl (by kernel_rfl) (by kernel_rfl) (by kernel_rfl) (fun _ _ _ h => h) (by kernel_rfl) (by kernel_rfl) (fun _ _ => by kernel_rfl) hq0.fr ?_
  simp only [Act.put, List.setIfInBounds_toArray, List.set_cons_succ, List.set_cons_zero]
  refine gsem 1 (some 4) (.pointer (some ⟨o.b, 0, none⟩)) rfl (by kernel_rfl) (by kernel_rfl) (by kernel_rfl) (fun _ _ _ h => h) (by kernel_rfl) (by kernel_rfl) (fun _ _ => by kernel_rfl) hq0.fr ?_
  simp only [Act.put, List.setIfInBounds_toArray, List.set_cons_succ, List.set_cons_zero]
  refine gsem 2 (some 5) (.pointer (some ⟨o.b, 0, none⟩)) rfl (by kernel_rfl) (by kernel_rfl) (by kernel_rfl) (fun _ _ _ h => h) (by kernel_rfl) (by kernel_rfl) (fun _ _ => by kernel_rfl) hq0.fr ?_
  simp only [Act.put, List.setIfInBounds_toArray, List.set_cons_succ, List.set_cons_zero]
  refine gsem 3 (some 6) (.int .i64 1) rfl (by kernel_rfl) (by kernel_rfl) (by kernel_rfl) (fun _ _ _ h => h) (by kernel_rfl) (by kernel_rfl) (fun X hX => ex_load1 3 Tryd.isAgg3 rfl rfl ((H.fr hX).blk) rfl) hq0.fr ?_
  simp only [Act.put, List.setIfInBounds_toArray, List.set_cons_succ, List.set_cons_zero]
  refine gsem 4 (some 7) (.pointer (some ⟨o.b, 0, none⟩)) rfl (by kernel_rfl) (by kernel_rfl) (by kernel_rfl) (fun _ _ _ h => h) (by kernel_rfl) (by kernel_rfl) (fun _ _ => by kernel_rfl) hq0.fr ?_
  simp only [Act.put, List.setIfInBounds_toArray, List.set_cons_succ, List.set_cons_zero]
  refine gsem 5 (some 8) (.pointer (some ⟨o.b, 0, none⟩)) rfl (by kernel_rfl) (by kernel_rfl) (by kernel_rfl) (fun _ _ _ h => h) (by kernel_rfl) (by kernel_rfl) (fun _ _ => by kernel_rfl) hq0.fr ?_
  simp only [Act.put, List.setIfInBounds_toArray, List.set_cons_succ, List.set_cons_zero]
  refine gsem 6 (some 9) (.pointer (some ⟨o.b, 1, none⟩)) rfl (by kernel_rfl) (by kernel_rfl) (by kernel_rfl) (fun _ _ _ h => h) (by kernel_rfl) (by kernel_rfl) (fun _ _ => by kernel_rfl) hq0.fr ?_
  simp only [Act.put, List.setIfInBounds_toArray, List.set_cons_succ, List.set_cons_zero]
  refine gsem 7 (some 10) (.agg o.p.cs.toArray) rfl (by kernel_rfl) (by kernel_rfl) (by kernel_rfl) (fun _ _ _ h => h) (by kernel_rfl) (by kernel_rfl) (fun X hX => ex_loadN (vs := o.p.cs) 35 5 row35 siz35 rfl rfl ((H.fr hX).blk) rfl rfl) hq0.fr ?_
  simp only [Act.put, List.setIfInBounds_toArray, List.set_cons_succ, List.set_cons_zero]
  refine gsem 8 (some 11) (.pointer (some ⟨o.b, 0, none⟩)) rfl (by kernel_rfl) (by kernel_rfl) (by kernel_rfl) (fun _ _ _ h => h) (by kernel_rfl) (by kernel_rfl) (fun _ _ => by kernel_rfl) hq0.fr ?_
  simp only [Act.put, List.setIfInBounds_toArray, List.set_cons_succ, List.set_cons_zero]
  refine gsem 9 (some 12) (.pointer (some ⟨o.b, 0, none⟩)) rfl (by kernel_rfl) (by kernel_rfl) (by kernel_rfl) (fun _ _ _ h => h) (by kernel_rfl) (by kernel_rfl) (fun _ _ => by kernel_rfl) hq0.fr ?_
  simp only [Act.put, List.setIfInBounds_toArray, List.set_cons_succ, List.set_cons_zero]
  refine gsem 10 (some 13) (.pointer (some ⟨o.b, 6, none⟩)) rfl (by kernel_rfl) (by kernel_rfl) (by kernel_rfl) (fun _ _ _ h => h) (by kernel_rfl) (by kernel_rfl) (fun _ _ => by kernel_rfl) hq0.fr ?_
  simp only [Act.put, List.setIfInBounds_toArray, List.set_cons_succ, List.set_cons_zero]
  refine gsem 11 (some 14) (.bool true) rfl (by kernel_rfl) (by kernel_rfl) (by kernel_rfl) (fun _ _ _ h => h) (by kernel_rfl) (by kernel_rfl) (fun X hX => ex_load1 4 Tryd.isAgg4 rfl rfl ((H.fr hX).blk) rfl) hq0.fr ?_
  simp only [Act.put, List.setIfInBounds_toArray, List.set_cons_succ, List.set_cons_zero]
  refine gsem 12 (some 15) (.pointer (some ⟨o.b, 0, none⟩)) rfl (by kernel_rfl) (by kernel_rfl) (by kernel_rfl) (fun _ _ _ h => h) (by kernel_rfl) (by kernel_rfl) (fun _ _ => by kernel_rfl) hq0.fr ?_
  simp only [Act.put, List.setIfInBounds_toArray, List.set_cons_succ, List.set_cons_zero]
  refine gsem 13 (some 16) (.pointer (some ⟨o.b, 0, none⟩)) rfl (by kernel_rfl) (by kernel_rfl) (by kernel_rfl) (fun _ _ _ h => h) (by kernel_rfl) (by kernel_rfl) (fun _ _ => by kernel_rfl) hq0.fr ?_
  simp only [Act.put, List.setIfInBounds_toArray, List.set_cons_succ, List.set_cons_zero]
  refine gsem 14 (some 17) (.pointer (some ⟨o.b, 7, none⟩)) rfl (by kernel_rfl) (by kernel_rfl) (by kernel_rfl) (fun _ _ _ h => h) (by kernel_rfl) (by kernel_rfl) (fun _ _ => by kernel_rfl) hq0.fr ?_
  simp only [Act.put, List.setIfInBounds_toArray, List.set_cons_succ, List.set_cons_zero]
  refine gsem 15 (some 18) (.pointer (some ⟨o.t, 0, none⟩)) rfl (by kernel_rfl) (by kernel_rfl) (by kernel_rfl) (fun _ _ _ h => h) (by kernel_rfl) (by kernel_rfl) (fun X hX => ex_load1 76 Tryd.isAgg76 rfl rfl ((H.fr hX).blk) rfl) hq0.fr ?_
  simp only [Act.put, List.setIfInBounds_toArray, List.set_cons_succ, List.set_cons_zero]
  refine wpAnyH_ready (rs := [16]) (by kernel_rfl) (by simp) (gcallR 16 (some 19) rfl (by kernel_rfl) (by kernel_rfl) (by kernel_rfl) (props25 o.t o.m _ (H.fr hq0.fr).tab) ?_ AllReadyH.nil)
  rintro e X8 ⟨A, c, rfl, hb8⟩
  have hq8 := hq0.on hb8
  refine ⟨_, rfl, hq8.fr, ?_⟩
  simp only [Act.put, List.setIfInBounds_toArray, List.set_cons_succ, List.set_cons_zero]
  refine gsem 17 (some 20) (.agg (shc o.p A c).toArray) rfl (by kernel_rfl) (by kernel_rfl) (by kernel_rfl) (fun _ _ _ h => h) (by kernel_rfl) (by kernel_rfl) (fun X hX => ex_build38 o.p A c rfl rfl rfl rfl rfl) hq8.fr ?_
  simp only [Act.put, List.setIfInBounds_toArray, List.set_cons_succ, List.set_cons_zero]
  have hq9 := hq8.put 0 rfl 0 (shc o.p A c) (Nat.le_refl _) (Or.inr (unhide hB2))
  rw [zshc_put] at hq9
  refine wpAnyH_ready (rs := [18]) (by kernel_rfl) (by simp) (gskp 18 none rfl (by kernel_rfl) (by kernel_rfl) (ex_store (t := 38) (vs := shc o.p A c) rfl rfl rfl rfl (shc_one _ _ _) siz38 (hq8.get 0 rfl) (Nat.le_refl _)) hq9.fr ?_ AllReadyH.nil)
  simp only [Act.put, List.setIfInBounds_toArray, List.set_cons_succ, List.set_cons_zero]
  refine wpAnyH_done (by kernel_rfl) ?_ _
  try simp only [Act.put, List.setIfInBounds_toArray, List.set_cons_succ, List.set_cons_zero]
  clear hq0 hq8 hb8 H
  go_wp2
  exact ret_c row38 siz38 rfl rfl rfl (hq9.get 0 rfl) rfl ⟨A, c, rfl, hq9.fr.below⟩
theorem HP.Is.cell {w : World} {n : Nat} {h : HP} (H : h.Is w n) {j : Nat} {o : OB} (hj : h.l[j]? = some o) : ∃ g c, h.gv = .slice (some ⟨g, 0, none⟩) h.l.length c ∧ g < w.heap.size ∧ w.cell? ⟨g, 0 + j * 1, none⟩ = some o.ptr := by
  have hjl := (List.getElem?_eq_some_iff.1 hj).1
  rcases H.own.2 with ⟨h1, h0⟩ | ⟨g, cap, cur, h1, h2, h3, h4, h5, h6, h7⟩
  · omega
  · refine ⟨g, cap, h1, (Array.getElem?_eq_some_iff.1 h3).1, ?_⟩
    have h8 : (cur.toList.take (h.l.length * 1))[j]? = (h.l.map OB.ptr)[j]? := by rw [h7]
    rw [List.getElem?_take, if_pos (by omega), List.getElem?_map, hj] at h8
    have e2 : cur[j]? = some o.ptr := by simpa using h8
    rw [Nat.zero_add, Nat.mul_one]
    simp [World.cell?, h3, e2]
theorem there18 (h : HP) (n : Nat) (w : World) (H : h.Is w n) (hl : h.l.length = 2) : Calls Tryd.prog 18 #[.pointer (some ⟨h.b, 0, none⟩), .int .i64 2] w fun e w' => e = .returned (.int .i64 0) ∧ w' = w := by
  have HO := hide (has27 h n 2 w H)
  have e : hasH 2 h.l.length = true := by simp [hasH, hl]
  rw [e] at HO
  clear H e hl
  go_enter Tryd.func18, Tryd.ntmps18
  go_wp2_with fail
  refine (unhide HO).mono ?_
  rintro _ _ ⟨rfl, rfl⟩
  go_wp2
  go_ret
  exact ⟨rfl, rfl⟩
theorem at19 (h : HP) (n : Nat) (o : OB) (w : World) (H : h.Is w n) (hj : h.l[1]? = some o) : Calls Tryd.prog 19 #[.pointer (some ⟨h.b, 0, none⟩), .int .i64 2] w fun e w' => e = .returned o.ptr ∧ w' = w := by
  obtain ⟨g, c, hgv, -, hc⟩ := H.cell hj
  have HB : Hid (Holds w h.b [.slice (some ⟨g, 0, none⟩) h.l.length c, .int .i64 h.cap, .int .i64 h.fuel, .int .i64 h.depth, .int .i64 0]) := hide (by have := H.blk; unfold hcs at this; rw [hgv] at this; exact this)
  have HC := hide hc
  have HLT := hide (List.getElem?_eq_some_iff.1 hj).1
  clear H hgv hc hj
  go_enter Tryd.func19, Tryd.ntmps19
  go_wp2_with (first | go_skip | ((with_reducible show wpList _ _ _ _ _ _); first | ((refine rd (by rfl) (ex_load1 49 Tryd.isAgg49 rfl rfl (unhide HB) rfl) ?_); simp only [Act.put, List.setIfInBounds_toArray, List.set_cons_succ, List.set_cons_zero]) | ((refine rd (by rfl) (ex_indexG 49 1 1 und49 idx49 rfl rfl rfl (unhide HLT)) ?_); simp only [Act.put, List.setIfInBounds_toArray, List.set_cons_succ, List.set_cons_zero]) | ((refine rd (by rfl) (ex_loadC 55 Tryd.isAgg55 rfl rfl (unhide HC)) ?_); simp only [Act.put, List.setIfInBounds_toArray, List.set_cons_succ, List.set_cons_zero])))
  go_ret
  exact ⟨rfl, rfl⟩
end Go.Proofs.YtmfhjbmgbbkicaaDoor
