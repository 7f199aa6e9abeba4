import Derived.Test.YtmfhjbmgbbkicaaDoorHj
namespace Go.Proofs.YtmfhjbmgbbkicaaDoor
open Go Go.Proofs Go.Maps Go.RowKit FM
set_option linter.unusedSimpArgs false
set_option linter.unusedVariables false
set_option maxHeartbeats 1000000
theorem AddOk.of {w w1 X : World} {n : Nat} {h : HP} {p : VV} {e : Ending} (hf : Fr w w1 []) (hA : AddOk w1 n h p e X) : AddOk w n h p e X := by
  obtain ⟨o, gv, h1, h2, h3, h4, h5, h6⟩ := hA
  refine ⟨o, gv, h1, h2, h3, (hf.mono (by simp)).trans h4 (fun b hb => .inl hb), fun g hg => (h5 g hg).imp id (fun h => Nat.le_trans hf.size h), fun b hb => Nat.le_trans hf.size (h6 b hb)⟩
theorem AddOk.fr {w0 w X : World} {h : HP} (hf : Fr w0 w []) (H : h.Is w w0.heap.size) (hA : Fr w X (h.b :: h.gv.ownBlock.toList)) : Fr w0 X [] :=
  hf.trans hA (fun b hb => .inr (by
    rcases List.mem_cons.1 hb with rfl | hb
    · exact H.base
    · exact (World.ownsRow.lt H.own b (Option.mem_toList.1 hb)).1))
theorem ex_mkI {o : Oper} {a : Act} {w : World} {x : Operand} (ho : o.op = .makeInterface 54 x) (hx : a.eval x = .agg #[]) : (execOp a.eval o).run Tryd.prog w = .ok (.value (.iface 54 (.agg #[]))) w := by
  have e : (Instr.makeInterface 54 (.agg #[])).run Tryd.prog w = .ok (.iface 54 (.agg #[])) w := by kernel_rfl
  unfold execOp
  simp only [ho, hx]
  simp [e]
theorem ex_b54 {o : Oper} {a : Act} {w : World} (ho : o.op = .build 54 #[]) : (execOp a.eval o).run Tryd.prog w = .ok (.value (.agg #[])) w := by
  have e : (Instr.build 54 #[]).run Tryd.prog w = .ok (.agg #[]) w := by kernel_rfl
  unfold execOp
  simp only [ho]
  simp [e]
set_option maxRecDepth 100000 in
theorem make6_bad (h : HP) (n : Nat) (p : VV) (E : Int) (w : World) (H : h.Is w n) (hT : Lib.Utf8Tabs 1 2 w) (he : addE h p = E) (hE : (E != 0) = true) : Calls Tryd.prog 6 #[.pointer (some ⟨h.b, 0, none⟩), p.agg] w fun e w' => e = .returned (.tuple #[.int .i64 0, .iface 25 (.int .i64 E)]) ∧ Below w.heap.size w w' := by
  have LL := hide (Hq.nil w [])
  rw [vagg]
  have HH := hide H
  have HT := hide hT
  have HEE := hide he
  clear H hT he
  go_enter Tryd.func6, Tryd.ntmps6
  go_wp2_with (first | go_skip | ((with_reducible show wpList _ _ _ _ _ _); first | ((refine bx 35 (p.cs) (by rfl) rfl rfl rfl (Nat.succ_pos _) (unhide LL) ?_); intro X3 B3 hE3 L3 hb3; have hB3 := hide (Nat.le_trans (unhide LL).fr.size (Nat.le_of_eq hE3.symm)); replace LL := hide L3; clear L3 hb3 hE3; simp only [Act.put, List.setIfInBounds_toArray, List.set_cons_succ, List.set_cons_zero]) | ((refine rd (by rfl) (ex_loadN (vs := p.cs) 35 5 row35 siz35 rfl rfl ((unhide LL).get 0 rfl) rfl rfl) ?_); simp only [Act.put, List.setIfInBounds_toArray, List.set_cons_succ, List.set_cons_zero]) | ((refine rd (by rfl) (ex_b54 rfl) ?_); simp only [Act.put, List.setIfInBounds_toArray, List.set_cons_succ, List.set_cons_zero])))
  refine (add14_bad h n p E _ ((unhide HH).fr (unhide LL).fr) (tabs_below (unhide HT) (unhide LL).fr.below) (unhide HEE) hE).mono ?_
  rintro e X ⟨rfl, hb⟩
  replace LL := hide ((unhide LL).on hb)
  clear hb
  go_wp2
  go_ret2
  exact ⟨rfl, (unhide LL).fr.below⟩
set_option maxRecDepth 100000 in
theorem make6_good (h : HP) (n : Nat) (p : VV) (w : World) (H : h.Is w n) (hT : Lib.Utf8Tabs 1 2 w) (he : addE h p = 0) : Calls Tryd.prog 6 #[.pointer (some ⟨h.b, 0, none⟩), p.agg] w (AddOk w n h p) := by
  have LL := hide (Hq.nil w [])
  rw [vagg]
  have HH := hide H
  have HT := hide hT
  have HEE := hide he
  clear H hT he
  go_enter Tryd.func6, Tryd.ntmps6
  go_wp2_with (first | go_skip | ((with_reducible show wpList _ _ _ _ _ _); first | ((refine bx 35 (p.cs) (by rfl) rfl rfl rfl (Nat.succ_pos _) (unhide LL) ?_); intro X3 B3 hE3 L3 hb3; have hB3 := hide (Nat.le_trans (unhide LL).fr.size (Nat.le_of_eq hE3.symm)); replace LL := hide L3; clear L3 hb3 hE3; simp only [Act.put, List.setIfInBounds_toArray, List.set_cons_succ, List.set_cons_zero]) | ((refine rd (by rfl) (ex_loadN (vs := p.cs) 35 5 row35 siz35 rfl rfl ((unhide LL).get 0 rfl) rfl rfl) ?_); simp only [Act.put, List.setIfInBounds_toArray, List.set_cons_succ, List.set_cons_zero]) | ((refine rd (by rfl) (ex_b54 rfl) ?_); simp only [Act.put, List.setIfInBounds_toArray, List.set_cons_succ, List.set_cons_zero])))
  refine (add14_good h n p _ ((unhide HH).fr (unhide LL).fr) (tabs_below (unhide HT) (unhide LL).fr.below) (unhide HEE)).mono ?_
  intro e X hA
  have HA := hide (AddOk.of (unhide LL).fr hA)
  clear hA LL
  obtain ⟨o, gv, he, -⟩ := unhide HA
  subst he
  go_wp2
  go_ret2
  exact unhide HA
set_option maxRecDepth 100000 in
theorem shape11 (h : HP) (n : Nat) (o : OB) (w : World) (H : h.Is w n) (hl : h.l.length = 2) (hj : h.l[1]? = some o) : Calls Tryd.prog 11 #[.pointer (some ⟨h.b, 0, none⟩), .int .i64 2] w fun e w' => ∃ A c, e = .returned (.tuple #[.agg (shc o.p A c).toArray, .int .i64 0]) ∧ Below w.heap.size w w' := by
  have LL := hide (Hq.nil w [])
  have HH := hide H
  have HJ := hide hj
  have HN := hide hl
  clear H hj hl
  go_enter Tryd.func11, Tryd.ntmps11
  go_wp2_with (first | go_skip | ((with_reducible show wpList _ _ _ _ _ _); first | ((refine alG 38 (zshc) (by rfl) rfl (fun w => by kernel_rfl) (Nat.succ_pos _) (unhide LL) ?_); intro X4 B4 hE4 L4 hb4; have hB4 := hide (Nat.le_trans (unhide LL).fr.size (Nat.le_of_eq hE4.symm)); replace LL := hide L4; clear L4 hb4 hE4; simp only [Act.put, List.setIfInBounds_toArray, List.set_cons_succ, List.set_cons_zero])))
  refine (there18 h n _ ((unhide HH).fr (unhide LL).fr) (unhide HN)).mono ?_
  rintro _ X1 ⟨rfl, rfl⟩
  go_wp2_with fail
  refine (at19 h n o _ ((unhide HH).fr (unhide LL).fr) (unhide HJ)).mono ?_
  rintro _ X2 ⟨rfl, rfl⟩
  go_wp2_with fail
  refine (shape15 o _ (((unhide HH).fr (unhide LL).fr).all o (List.mem_of_getElem? (unhide HJ)))).mono ?_
  rintro _ X3 ⟨A, c, rfl, hb⟩
  replace LL := hide ((unhide LL).on hb)
  clear hb
  go_wp2_with (first | go_skip | ((with_reducible show wpList _ _ _ _ _ _); first | ((refine st (vs := shc o.p A c) 0 38 (by rfl) rfl rfl rfl rfl (shc_one _ _ _) siz38 (unhide LL) rfl (by simp [shc, zshc, VV.cs]) (Or.inr (unhide hB4)) ?_); intro X9 L9 hf9 hs9; replace LL := hide L9; clear L9 hf9 hs9; simp only [Act.put, List.setIfInBounds_toArray, List.set_cons_succ, List.set_cons_zero])))
  refine ret_ct row38 siz38 rfl rfl rfl rfl ((unhide LL).get 0 rfl) rfl ⟨A, c, by rw [zshc_put]; rfl, (unhide LL).fr.below⟩
end Go.Proofs.YtmfhjbmgbbkicaaDoor
