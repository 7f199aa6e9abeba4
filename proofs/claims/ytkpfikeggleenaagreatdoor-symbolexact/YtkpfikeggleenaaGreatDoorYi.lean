import Derived.Test.YtkpfikeggleenaaGreatDoorYh
namespace Go.Proofs.YtkpfikeggleenaaGreatDoor
open Go Go.Proofs Go.Maps Go.RowKit
set_option linter.unusedSimpArgs false
set_option linter.unusedVariables false
set_option maxHeartbeats 1000000
/-- What a new registry has. -/
def wkY : List SY := wkL.map (fun s => ⟨sV s, false⟩)
theorem wkL_length : wkL.length = 13 := rfl
theorem wkY_length : wkY.length = 13 := rfl
theorem wkY_take (i : Nat) {s : ByteArray} (h : wkL[i]? = some s) : wkY.take (i + 1) = wkY.take i ++ [⟨sV s, false⟩] := by
  rw [List.take_add_one]
  unfold wkY
  rw [List.getElem?_map, h]
  rfl
theorem wk_good' : (wkL.all fun s => (sV s).good && decide (s.size ≤ 1000)) = true := by kernel_rfl
theorem wk_good {s : ByteArray} (h : s ∈ wkL) : (sV s).good = true ∧ s.size ≤ 1000 := by
  have := List.all_eq_true.1 wk_good' s h
  simpa using this
theorem row58 : ∃ d, Tryz.prog.underlying 74 = some d ∧ d.isRow = true := ⟨_, Tryz.underlying74, rfl⟩
theorem siz58 : (Tryz.prog.info? 74).map (·.size) = some 13 := by kernel_rfl
theorem ix58_0 (w : World) : (Instr.index 74 (.agg wkCs.toArray) (.int .i64 0)).run Tryz.prog w = .ok (.string wkL[0]) w := by kernel_rfl
theorem ix58_1 (w : World) : (Instr.index 74 (.agg wkCs.toArray) (.int .i64 1)).run Tryz.prog w = .ok (.string wkL[1]) w := by kernel_rfl
theorem ix58_2 (w : World) : (Instr.index 74 (.agg wkCs.toArray) (.int .i64 2)).run Tryz.prog w = .ok (.string wkL[2]) w := by kernel_rfl
theorem ix58_3 (w : World) : (Instr.index 74 (.agg wkCs.toArray) (.int .i64 3)).run Tryz.prog w = .ok (.string wkL[3]) w := by kernel_rfl
theorem ix58_4 (w : World) : (Instr.index 74 (.agg wkCs.toArray) (.int .i64 4)).run Tryz.prog w = .ok (.string wkL[4]) w := by kernel_rfl
theorem ix58_5 (w : World) : (Instr.index 74 (.agg wkCs.toArray) (.int .i64 5)).run Tryz.prog w = .ok (.string wkL[5]) w := by kernel_rfl
theorem ix58_6 (w : World) : (Instr.index 74 (.agg wkCs.toArray) (.int .i64 6)).run Tryz.prog w = .ok (.string wkL[6]) w := by kernel_rfl
theorem ix58_7 (w : World) : (Instr.index 74 (.agg wkCs.toArray) (.int .i64 7)).run Tryz.prog w = .ok (.string wkL[7]) w := by kernel_rfl
theorem ix58_8 (w : World) : (Instr.index 74 (.agg wkCs.toArray) (.int .i64 8)).run Tryz.prog w = .ok (.string wkL[8]) w := by kernel_rfl
theorem ix58_9 (w : World) : (Instr.index 74 (.agg wkCs.toArray) (.int .i64 9)).run Tryz.prog w = .ok (.string wkL[9]) w := by kernel_rfl
theorem ix58_10 (w : World) : (Instr.index 74 (.agg wkCs.toArray) (.int .i64 10)).run Tryz.prog w = .ok (.string wkL[10]) w := by kernel_rfl
theorem ix58_11 (w : World) : (Instr.index 74 (.agg wkCs.toArray) (.int .i64 11)).run Tryz.prog w = .ok (.string wkL[11]) w := by kernel_rfl
theorem ix58_12 (w : World) : (Instr.index 74 (.agg wkCs.toArray) (.int .i64 12)).run Tryz.prog w = .ok (.string wkL[12]) w := by kernel_rfl
theorem ix58 (i : Nat) {s : ByteArray} (hi : wkL[i]? = some s) (w : World) : (Instr.index 74 (.agg wkCs.toArray) (.int .i64 (i : Nat))).run Tryz.prog w = .ok (.string s) w := by
  have h13 : i < 13 := by
    have := (List.getElem?_eq_some_iff.1 hi).1
    rwa [wkL_length] at this
  have hc : i = 0 ∨ i = 1 ∨ i = 2 ∨ i = 3 ∨ i = 4 ∨ i = 5 ∨ i = 6 ∨ i = 7 ∨ i = 8 ∨ i = 9 ∨ i = 10 ∨ i = 11 ∨ i = 12 := by omega
  rcases hc with rfl | rfl | rfl | rfl | rfl | rfl | rfl | rfl | rfl | rfl | rfl | rfl | rfl
  · exact Option.some.inj hi ▸ ix58_0 w
  · exact Option.some.inj hi ▸ ix58_1 w
  · exact Option.some.inj hi ▸ ix58_2 w
  · exact Option.some.inj hi ▸ ix58_3 w
  · exact Option.some.inj hi ▸ ix58_4 w
  · exact Option.some.inj hi ▸ ix58_5 w
  · exact Option.some.inj hi ▸ ix58_6 w
  · exact Option.some.inj hi ▸ ix58_7 w
  · exact Option.some.inj hi ▸ ix58_8 w
  · exact Option.some.inj hi ▸ ix58_9 w
  · exact Option.some.inj hi ▸ ix58_10 w
  · exact Option.some.inj hi ▸ ix58_11 w
  · exact Option.some.inj hi ▸ ix58_12 w
theorem ex_index58 {o : Oper} {a : Act} {w : World} {x ix : Operand} {s : ByteArray} (i : Nat) (hi : wkL[i]? = some s) (ho : o.op = .index 74 x ix) (hx : a.eval x = .agg wkCs.toArray) (hix : a.eval ix = .int .i64 (i : Nat)) : (execOp a.eval o).run Tryz.prog w = .ok (.value (.string s)) w := by
  have := ix58 i hi w
  unfold execOp
  simp only [ho, hx, hix]
  simp [this]
theorem mmS {ops : Array Oper} {rest : List Oper} {Q : Exit → Act → World → Prop} {w w0 : World} {a : Act} {o : Oper} {E : List Nat} {L : List (Nat × List Value)} (hw : Region.wanted o (yielded ops a.tmps) = true) (ho : o.op = .makeMap 70 none) (hL : Hq w0 w E L)
    (h : ∀ X B, B = w.heap.size → Hq w0 X E L → MapS X B 0 0 (fun _ => none) → B < X.heap.size → Below w.heap.size w X → wpList Tryz.prog ops Q rest (a.put o.dst (.map (some B))) X) : wpList Tryz.prog ops Q (o :: rest) a w := by
  refine BigFrame.wpList_want hw fun K hK => ?_
  have bl : Below w.heap.size w (w.alloc (Obj.map #[] 0)) := (Below.refl _ _).alloc (Nat.le_refl _) _
  have hP := hK _ _ (h _ _ rfl (hL.on bl) (MapS.made w) (by simp) bl)
  have e := @run_makeMap Tryz.prog
  unfold Oper.wp execOp
  simp only [ho]
  simp [e]
  exact hP
theorem ex_build74 {o : Oper} {a : Act} {w : World} {x : Operand} {M : Nat} (ho : o.op = .build 73 #[(1, x)]) (hx : a.eval x = .map (some M)) : (execOp a.eval o).run Tryz.prog w = .ok (.value (.agg #[.slice none 0 0, .map (some M)])) w := by
  have e : (Instr.build 73 #[(1, .map (some M))]).run Tryz.prog w = .ok (.agg #[.slice none 0 0, .map (some M)]) w := by kernel_rfl
  unfold execOp
  simp only [ho, List.map_toArray, List.map_cons, List.map_nil, hx]
  simp [e]
set_option maxRecDepth 100000 in
theorem new12 (w : World) (hT : Tabs w) : Calls Tryz.prog 9 #[] w fun e w' => ∃ R : RG, e = .returned (.pointer (some ⟨R.r, 0, none⟩)) ∧ R.Is w' 0 0 (fun _ => none) ∧ R.l = wkY ∧ (∀ b ∈ R.blocks, w.heap.size ≤ b) ∧ Below w.heap.size w w' := by
  have HT := hide hT
  have LL := hide (Hq.nil w [])
  clear hT
  go_enter Tryz.func9, Tryz.ntmps9
  go_wp2_with (first | go_skip | ((with_reducible show wpList _ _ _ _ _ _); first | ((refine mmS (by rfl) rfl (unhide LL) ?_); intro X1 M1 hE1 L1 hM1 hlt1 hb1; have HM := hide (And.intro hM1 (And.intro hlt1 (Nat.le_trans (unhide LL).fr.size (Nat.le_of_eq hE1.symm)))); replace LL := hide L1; clear L1 hM1 hlt1 hb1 hE1; simp only [Act.put, List.setIfInBounds_toArray, List.set_cons_succ, List.set_cons_zero]) | ((refine rd (by rfl) (ex_build74 rfl rfl) ?_); simp only [Act.put, List.setIfInBounds_toArray, List.set_cons_succ, List.set_cons_zero]) | ((refine bx 73 [.slice none 0 0, .map (some M1)] (by rfl) rfl rfl rfl (Nat.succ_pos _) (unhide LL) ?_); intro X2 B2 hE2 L2 hb2; have HB := hide (And.intro (MapS.block (unhide HM).1 (hb2.block _ (unhide HM).2.1)) (And.intro (Nat.ne_of_gt (Nat.lt_of_lt_of_le (unhide HM).2.1 (Nat.le_of_eq hE2.symm))) (And.intro (Nat.le_trans (unhide LL).fr.size (Nat.le_of_eq hE2.symm)) (unhide HM).2.2))); replace LL := hide L2; clear L2 hb2 hE2 HM; simp only [Act.put, List.setIfInBounds_toArray, List.set_cons_succ, List.set_cons_zero]) | ((refine rd (by rfl) (ex_loadR (vs := wkCs) 74 13 row58 siz58 rfl rfl (((unhide HT).fr (unhide LL).fr (by simp)).k) rfl) ?_); simp only [Act.put, List.setIfInBounds_toArray, List.set_cons_succ, List.set_cons_zero])))
  go_loopg [8] 13 (fun gm s8 wr => ∃ i : Nat, s8 = .int .i64 i ∧ i ≤ 13 ∧ 13 - i ≤ gm ∧ Hid (∃ sv, (RG.mk B2 M1 sv (wkY.take i)).Is wr 0 0 (fun _ => none) ∧ Fr w wr [] ∧ (∀ b ∈ (RG.mk B2 M1 sv (wkY.take i)).blocks, w.heap.size ≤ b)))
  case atStart =>
    have h5 := (unhide HT).sz
    have hB := unhide HB
    refine ⟨0, rfl, by omega, by omega, hide ⟨.slice none 0 0, ⟨(unhide LL).get 0 rfl, OwnS.nil _ _, hB.1, ?_, ?_, ?_⟩, (unhide LL).fr, ?_⟩⟩
    · simp [RG.blocks, Value.ownBlock]
      exact hB.2.1
    · intro b hb
      simp [RG.blocks, Value.ownBlock] at hb
      rcases hb with rfl | rfl
      · exact Nat.le_trans h5 hB.2.2.1
      · exact Nat.le_trans h5 hB.2.2.2
    · intro y hy
      simp at hy
    · intro b hb
      simp [RG.blocks, Value.ownBlock] at hb
      rcases hb with rfl | rfl
      · exact hB.2.2.1
      · exact hB.2.2.2
  case round =>
    obtain ⟨i, rfl, hi, hgm, HI⟩ := hrel
    by_cases hlt : i < 13
    · have hlz : decide ((i : Int) < 13) = true := decide_eq_true (by omega)
      have hw1 : IntKind.i64.wrap ((i : Int) + 1) = (i : Int) + 1 := by rw [IntKind.wrap_i64]; omega
      obtain ⟨sv, HI2⟩ := unhide HI
      replace HI2 := hide HI2
      have HLT := hide hlt
      obtain ⟨A, c, hv⟩ := (unhide HI2).1.own.form
      dsimp only at hv
      subst hv
      obtain ⟨s, hs⟩ : ∃ s, wkL[i]? = some s := ⟨_, List.getElem?_eq_getElem (by rw [wkL_length]; exact hlt)⟩
      have HS := hide hs
      have hmem : Hid (s ∈ wkL) := hide (List.mem_of_getElem? hs)
      clear hs hlt
      go_wp2_with (first | go_skip | ((with_reducible show wpList _ _ _ _ _ _); first | ((refine rd (by rfl) (ex_index58 i (unhide HS) rfl rfl rfl) ?_); simp only [Act.put, List.setIfInBounds_toArray, List.set_cons_succ, List.set_cons_zero])))
      have hlt := unhide HLT
      have hs := unhide HS
      replace hmem := unhide hmem
      have hI0 := (unhide HI2).1.drew
      have h0 := hI0.hold
      have O0 := hI0.own
      have h5 : 5 ≤ wr.drew.heap.size := Nat.le_trans (unhide HT).sz (unhide HI2).2.1.size
      have hne := hI0.row_r
      have HC : ∀ X, Below wr.drew.heap.size wr.drew X → Calls Tryz.prog 30 #[.string s] X fun e w' => e = .returned (sV s).agg ∧ Below X.heap.size X w' := fun X hX => by
        have := str_any s X (((unhide HT).fr (unhide HI2).2.1.drew (by simp)).on hX).u
        change Calls Tryz.prog 30 #[.string s] X fun e w' => e = .returned (VV.made (sV s)).agg ∧ Below X.heap.size X w' at this
        rw [sV_made (wk_good hmem).1] at this
        exact this
      have hln : (wkY.take i).length ≤ 13 := by rw [List.length_take, wkY_length]; omega
      refine wp_region_held_drew (P := Tryz.prog) (S := fun _ => True) (by kernel_rfl) trivial (fun hS0 => ?_)
      refine gsem 0 (some 11) (.pointer (some ⟨B2, 0, none⟩)) rfl (by kernel_rfl) (by kernel_rfl) (by kernel_rfl) (fun _ _ _ h => h) (by kernel_rfl) (by kernel_rfl) (fun _ _ => by kernel_rfl) trivial ?_
      simp only [Act.put, List.setIfInBounds_toArray, List.set_cons_succ, List.set_cons_zero]
      refine gsem 1 (some 12) (.pointer (some ⟨B2, 0, none⟩)) rfl (by kernel_rfl) (by kernel_rfl) (by kernel_rfl) (fun _ _ _ h => h) (by kernel_rfl) (by kernel_rfl) (fun _ _ => by kernel_rfl) trivial ?_
      simp only [Act.put, List.setIfInBounds_toArray, List.set_cons_succ, List.set_cons_zero]
      refine gsem 2 (some 13) (.pointer (some ⟨B2, 0, none⟩)) rfl (by kernel_rfl) (by kernel_rfl) (by kernel_rfl) (fun _ _ _ h => h) (by kernel_rfl) (by kernel_rfl) (fun _ _ => by kernel_rfl) trivial ?_
      simp only [Act.put, List.setIfInBounds_toArray, List.set_cons_succ, List.set_cons_zero]
      refine gsem 3 (some 14) (.pointer (some ⟨B2, 0, none⟩)) rfl (by kernel_rfl) (by kernel_rfl) (by kernel_rfl) (fun _ _ _ h => h) (by kernel_rfl) (by kernel_rfl) (fun _ _ => by kernel_rfl) trivial ?_
      simp only [Act.put, List.setIfInBounds_toArray, List.set_cons_succ, List.set_cons_zero]
      refine gsem 5 (some 16) (.string s) rfl (by kernel_rfl) (by kernel_rfl) (by kernel_rfl) (fun _ _ _ h => h) (by kernel_rfl) (by kernel_rfl) (fun _ _ => by kernel_rfl) trivial ?_
      simp only [Act.put, List.setIfInBounds_toArray, List.set_cons_succ, List.set_cons_zero]
      refine wpAnyH_ready (rs := [4, 6]) (by kernel_rfl) (by simp) (gval 4 (some 15) rfl (by kernel_rfl) (by kernel_rfl) (ex_load1 71 Tryz.isAgg71 rfl rfl h0 rfl) trivial ?_ (gcallR 6 (some 17) rfl (by kernel_rfl) (by kernel_rfl) (by kernel_rfl) (HC _ (Below.refl _ _)) ?_ AllReadyH.nil))
      · simp only [Act.put, List.setIfInBounds_toArray, List.set_cons_succ, List.set_cons_zero]
        refine wpAnyH_ready (rs := [6]) (by kernel_rfl) (by simp) (gcallR 6 (some 17) rfl (by kernel_rfl) (by kernel_rfl) (by kernel_rfl) (HC _ (Below.refl _ _)) ?_ AllReadyH.nil)
        rintro e X6 ⟨rfl, hb6⟩
        refine ⟨_, rfl, trivial, ?_⟩
        rw [vagg]
        simp only [Act.put, List.setIfInBounds_toArray, List.set_cons_succ, List.set_cons_zero]
        have h6 := h0.block (hb6.block B2 (h0.lt (Nat.succ_pos _)))
        have O6 : OwnS 77 X6 (.slice A (wkY.take i).length c) ((wkY.take i)) := O0.block (fun g hg => hb6.block g (O0.lt g hg).2)
        have bl := (Below.refl X6.heap.size X6).alloc (Nat.le_refl _) (Obj.cells (SY.mk (sV s) false).cs.toArray 77)
        have h8 := h6.block (bl.block B2 (h6.lt (Nat.succ_pos _)))
        have O8 : OwnS 77 _ (.slice A (wkY.take i).length c) ((wkY.take i)) := O6.block (fun g hg => bl.block g (O6.lt g hg).2)
        have hN8 := Holds.new X6 (SY.mk (sV s) false).cs 77
        have F8 := (Fr.of_below hb6 []).on bl
        refine gsem 7 (some 18) (.agg (SY.mk (sV s) false).cs.toArray) rfl (by kernel_rfl) (by kernel_rfl) (by kernel_rfl) (fun _ _ _ h => h) (by kernel_rfl) (by kernel_rfl) (fun X hX => ex_build77 (v := sV s) rfl rfl) trivial ?_
        simp only [Act.put, List.setIfInBounds_toArray, List.set_cons_succ, List.set_cons_zero]
        refine wpAnyH_ready (rs := [8]) (by kernel_rfl) (by simp) (gval 8 (some 19) rfl (by kernel_rfl) (by kernel_rfl) (ex_buildS (e := 77) (size := 6) (bytes := 56) (cs := (SY.mk (sV s) false).cs) rfl rfl Tryz.underlying71 info77 (by decide) rfl rfl (by decide)) trivial ?_ AllReadyH.nil)
        simp only [Act.put, List.setIfInBounds_toArray, List.set_cons_succ, List.set_cons_zero]
        generalize hX8 : X6.alloc (Obj.cells (SY.mk (sV s) false).cs.toArray 77) = X8 at *
        generalize hB8 : X6.heap.size = B8 at *
        refine wpAnyH_ready (rs := [9]) (by kernel_rfl) (by simp) (gappF (base := 5) (v := .slice A (wkY.take i).length c) (xs := flatS ((wkY.take i))) (news := (SY.mk (sV s) false).cs) 9 (some 20) rfl (by kernel_rfl) (by kernel_rfl) rfl rfl rfl Tryz.underlying71 info77 rfl (by decide) O8 hN8 rfl (ycs_one _) (by omega) (by decide) (Nat.le_trans h5 F8.size) (fun _ _ => trivial) ?_ AllReadyH.nil)
        intro A9 c9 X9 O9 hg9 hf9
        have h9 : Holds X9 B2 [.slice A (wkY.take i).length c, .map (some M1)] := h8.block (hg9.block B2 (h8.lt (Nat.succ_pos _)) (fun e => hne B2 e.symm rfl))
        simp only [Act.put, List.setIfInBounds_toArray, List.set_cons_succ, List.set_cons_zero]
        refine gsem 10 (some 21) (.pointer (some ⟨B2, 0, none⟩)) rfl (by kernel_rfl) (by kernel_rfl) (by kernel_rfl) (fun _ _ _ h => h) (by kernel_rfl) (by kernel_rfl) (fun _ _ => by kernel_rfl) trivial ?_
        simp only [Act.put, List.setIfInBounds_toArray, List.set_cons_succ, List.set_cons_zero]
        refine gsem 11 (some 22) (.pointer (some ⟨B2, 0, none⟩)) rfl (by kernel_rfl) (by kernel_rfl) (by kernel_rfl) (fun _ _ _ h => h) (by kernel_rfl) (by kernel_rfl) (fun _ _ => by kernel_rfl) trivial ?_
        simp only [Act.put, List.setIfInBounds_toArray, List.set_cons_succ, List.set_cons_zero]
        have h12 := h9.put 0 [.slice A9 ((wkY.take i).length + 1) c9] (by simp)
        have f12 := Fr.setCells X9 B2 0 [.slice A9 ((wkY.take i).length + 1) c9]
        refine wpAnyH_ready (rs := [12]) (by kernel_rfl) (by simp) (gskp 12 none rfl (by kernel_rfl) (by kernel_rfl) (ex_store (t := 71) (b := B2) (p := 0) (vs := [.slice A9 ((wkY.take i).length + 1) c9]) rfl rfl rfl rfl (by simp [Value.oneCell']) siz72 h9 (by simp)) trivial ?_ AllReadyH.nil)
        simp only [Act.put, List.setIfInBounds_toArray, List.set_cons_succ, List.set_cons_zero]
        refine wpAnyH_done (by kernel_rfl) ?_ _
        try simp only [Act.put, List.setIfInBounds_toArray, List.set_cons_succ, List.set_cons_zero]
        generalize X9.setCells B2 0 [.slice A9 ((wkY.take i).length + 1) c9] = X12 at *
        have FIN := RG.Is.added hI0 F8 O9 hg9 hf9 f12 h12 (sV_size (wk_good hmem).1) h5
        have HFIN : Hid (∃ sv, (RG.mk B2 M1 sv (wkY.take (i + 1))).Is X12 0 0 (fun _ => none) ∧ Fr w X12 [] ∧ (∀ b ∈ (RG.mk B2 M1 sv (wkY.take (i + 1))).blocks, w.heap.size ≤ b)) := hide (by
          rw [wkY_take i hs]
          refine ⟨_, FIN.1, (unhide HI2).2.1.drew.trans FIN.2.1 (fun b hb => .inr ((unhide HI2).2.2 b hb)), fun b hb => ?_⟩
          unfold RG.blocks at hb
          simp only [List.mem_cons] at hb
          rcases hb with rfl | rfl | hb
          · exact (unhide HI2).2.2 _ (by simp [RG.blocks])
          · exact (unhide HI2).2.2 _ (by simp [RG.blocks])
          · rcases FIN.2.2 b (by simpa using hb) with e | e
            · exact (unhide HI2).2.2 b (by unfold RG.blocks; exact List.mem_cons_of_mem _ (List.mem_cons_of_mem _ (by rw [e]; simp)))
            · exact Nat.le_trans (unhide HI2).2.1.drew.size e)
        clear FIN h12 f12 h9 O9 hg9 hf9 hN8 F8 O8 h8 h6 O6 bl hb6 h0 O0 hI0 HC hne h5 hX8 hB8 hS0
        go_wp2
        go_roundg (13 - (i + 1))
        case measure => omega
        case rel => exact ⟨i + 1, by go_num, by omega, by omega, HFIN⟩
      · rintro e X6 ⟨rfl, hb6⟩
        refine ⟨_, rfl, trivial, ?_⟩
        rw [vagg]
        simp only [Act.put, List.setIfInBounds_toArray, List.set_cons_succ, List.set_cons_zero]
        have h6 := h0.block (hb6.block B2 (h0.lt (Nat.succ_pos _)))
        have O6 : OwnS 77 X6 (.slice A (wkY.take i).length c) ((wkY.take i)) := O0.block (fun g hg => hb6.block g (O0.lt g hg).2)
        have bl := (Below.refl X6.heap.size X6).alloc (Nat.le_refl _) (Obj.cells (SY.mk (sV s) false).cs.toArray 77)
        have h8 := h6.block (bl.block B2 (h6.lt (Nat.succ_pos _)))
        have O8 : OwnS 77 _ (.slice A (wkY.take i).length c) ((wkY.take i)) := O6.block (fun g hg => bl.block g (O6.lt g hg).2)
        have hN8 := Holds.new X6 (SY.mk (sV s) false).cs 77
        have F8 := (Fr.of_below hb6 []).on bl
        refine gsem 7 (some 18) (.agg (SY.mk (sV s) false).cs.toArray) rfl (by kernel_rfl) (by kernel_rfl) (by kernel_rfl) (fun _ _ _ h => h) (by kernel_rfl) (by kernel_rfl) (fun X hX => ex_build77 (v := sV s) rfl rfl) trivial ?_
        simp only [Act.put, List.setIfInBounds_toArray, List.set_cons_succ, List.set_cons_zero]
        refine wpAnyH_ready (rs := [4, 8]) (by kernel_rfl) (by simp) (gval 4 (some 15) rfl (by kernel_rfl) (by kernel_rfl) (ex_load1 71 Tryz.isAgg71 rfl rfl h6 rfl) trivial ?_ (gval 8 (some 19) rfl (by kernel_rfl) (by kernel_rfl) (ex_buildS (e := 77) (size := 6) (bytes := 56) (cs := (SY.mk (sV s) false).cs) rfl rfl Tryz.underlying71 info77 (by decide) rfl rfl (by decide)) trivial ?_ AllReadyH.nil))
        · simp only [Act.put, List.setIfInBounds_toArray, List.set_cons_succ, List.set_cons_zero]
          refine wpAnyH_ready (rs := [8]) (by kernel_rfl) (by simp) (gval 8 (some 19) rfl (by kernel_rfl) (by kernel_rfl) (ex_buildS (e := 77) (size := 6) (bytes := 56) (cs := (SY.mk (sV s) false).cs) rfl rfl Tryz.underlying71 info77 (by decide) rfl rfl (by decide)) trivial ?_ AllReadyH.nil)
          simp only [Act.put, List.setIfInBounds_toArray, List.set_cons_succ, List.set_cons_zero]
          generalize hX8 : X6.alloc (Obj.cells (SY.mk (sV s) false).cs.toArray 77) = X8 at *
          generalize hB8 : X6.heap.size = B8 at *
          refine wpAnyH_ready (rs := [9]) (by kernel_rfl) (by simp) (gappF (base := 5) (v := .slice A (wkY.take i).length c) (xs := flatS ((wkY.take i))) (news := (SY.mk (sV s) false).cs) 9 (some 20) rfl (by kernel_rfl) (by kernel_rfl) rfl rfl rfl Tryz.underlying71 info77 rfl (by decide) O8 hN8 rfl (ycs_one _) (by omega) (by decide) (Nat.le_trans h5 F8.size) (fun _ _ => trivial) ?_ AllReadyH.nil)
          intro A9 c9 X9 O9 hg9 hf9
          have h9 : Holds X9 B2 [.slice A (wkY.take i).length c, .map (some M1)] := h8.block (hg9.block B2 (h8.lt (Nat.succ_pos _)) (fun e => hne B2 e.symm rfl))
          simp only [Act.put, List.setIfInBounds_toArray, List.set_cons_succ, List.set_cons_zero]
          refine gsem 10 (some 21) (.pointer (some ⟨B2, 0, none⟩)) rfl (by kernel_rfl) (by kernel_rfl) (by kernel_rfl) (fun _ _ _ h => h) (by kernel_rfl) (by kernel_rfl) (fun _ _ => by kernel_rfl) trivial ?_
          simp only [Act.put, List.setIfInBounds_toArray, List.set_cons_succ, List.set_cons_zero]
          refine gsem 11 (some 22) (.pointer (some ⟨B2, 0, none⟩)) rfl (by kernel_rfl) (by kernel_rfl) (by kernel_rfl) (fun _ _ _ h => h) (by kernel_rfl) (by kernel_rfl) (fun _ _ => by kernel_rfl) trivial ?_
          simp only [Act.put, List.setIfInBounds_toArray, List.set_cons_succ, List.set_cons_zero]
          have h12 := h9.put 0 [.slice A9 ((wkY.take i).length + 1) c9] (by simp)
          have f12 := Fr.setCells X9 B2 0 [.slice A9 ((wkY.take i).length + 1) c9]
          refine wpAnyH_ready (rs := [12]) (by kernel_rfl) (by simp) (gskp 12 none rfl (by kernel_rfl) (by kernel_rfl) (ex_store (t := 71) (b := B2) (p := 0) (vs := [.slice A9 ((wkY.take i).length + 1) c9]) rfl rfl rfl rfl (by simp [Value.oneCell']) siz72 h9 (by simp)) trivial ?_ AllReadyH.nil)
          simp only [Act.put, List.setIfInBounds_toArray, List.set_cons_succ, List.set_cons_zero]
          refine wpAnyH_done (by kernel_rfl) ?_ _
          try simp only [Act.put, List.setIfInBounds_toArray, List.set_cons_succ, List.set_cons_zero]
          generalize X9.setCells B2 0 [.slice A9 ((wkY.take i).length + 1) c9] = X12 at *
          have FIN := RG.Is.added hI0 F8 O9 hg9 hf9 f12 h12 (sV_size (wk_good hmem).1) h5
          have HFIN : Hid (∃ sv, (RG.mk B2 M1 sv (wkY.take (i + 1))).Is X12 0 0 (fun _ => none) ∧ Fr w X12 [] ∧ (∀ b ∈ (RG.mk B2 M1 sv (wkY.take (i + 1))).blocks, w.heap.size ≤ b)) := hide (by
            rw [wkY_take i hs]
            refine ⟨_, FIN.1, (unhide HI2).2.1.drew.trans FIN.2.1 (fun b hb => .inr ((unhide HI2).2.2 b hb)), fun b hb => ?_⟩
            unfold RG.blocks at hb
            simp only [List.mem_cons] at hb
            rcases hb with rfl | rfl | hb
            · exact (unhide HI2).2.2 _ (by simp [RG.blocks])
            · exact (unhide HI2).2.2 _ (by simp [RG.blocks])
            · rcases FIN.2.2 b (by simpa using hb) with e | e
              · exact (unhide HI2).2.2 b (by unfold RG.blocks; exact List.mem_cons_of_mem _ (List.mem_cons_of_mem _ (by rw [e]; simp)))
              · exact Nat.le_trans (unhide HI2).2.1.drew.size e)
          clear FIN h12 f12 h9 O9 hg9 hf9 hN8 F8 O8 h8 h6 O6 bl hb6 h0 O0 hI0 HC hne h5 hX8 hB8 hS0
          go_wp2
          go_roundg (13 - (i + 1))
          case measure => omega
          case rel => exact ⟨i + 1, by go_num, by omega, by omega, HFIN⟩
        · simp only [Act.put, List.setIfInBounds_toArray, List.set_cons_succ, List.set_cons_zero]
          refine wpAnyH_ready (rs := [4]) (by kernel_rfl) (by simp) (gval 4 (some 15) rfl (by kernel_rfl) (by kernel_rfl) (ex_load1 71 Tryz.isAgg71 rfl rfl h8 rfl) trivial ?_ AllReadyH.nil)
          simp only [Act.put, List.setIfInBounds_toArray, List.set_cons_succ, List.set_cons_zero]
          generalize hX8 : X6.alloc (Obj.cells (SY.mk (sV s) false).cs.toArray 77) = X8 at *
          generalize hB8 : X6.heap.size = B8 at *
          refine wpAnyH_ready (rs := [9]) (by kernel_rfl) (by simp) (gappF (base := 5) (v := .slice A (wkY.take i).length c) (xs := flatS ((wkY.take i))) (news := (SY.mk (sV s) false).cs) 9 (some 20) rfl (by kernel_rfl) (by kernel_rfl) rfl rfl rfl Tryz.underlying71 info77 rfl (by decide) O8 hN8 rfl (ycs_one _) (by omega) (by decide) (Nat.le_trans h5 F8.size) (fun _ _ => trivial) ?_ AllReadyH.nil)
          intro A9 c9 X9 O9 hg9 hf9
          have h9 : Holds X9 B2 [.slice A (wkY.take i).length c, .map (some M1)] := h8.block (hg9.block B2 (h8.lt (Nat.succ_pos _)) (fun e => hne B2 e.symm rfl))
          simp only [Act.put, List.setIfInBounds_toArray, List.set_cons_succ, List.set_cons_zero]
          refine gsem 10 (some 21) (.pointer (some ⟨B2, 0, none⟩)) rfl (by kernel_rfl) (by kernel_rfl) (by kernel_rfl) (fun _ _ _ h => h) (by kernel_rfl) (by kernel_rfl) (fun _ _ => by kernel_rfl) trivial ?_
          simp only [Act.put, List.setIfInBounds_toArray, List.set_cons_succ, List.set_cons_zero]
          refine gsem 11 (some 22) (.pointer (some ⟨B2, 0, none⟩)) rfl (by kernel_rfl) (by kernel_rfl) (by kernel_rfl) (fun _ _ _ h => h) (by kernel_rfl) (by kernel_rfl) (fun _ _ => by kernel_rfl) trivial ?_
          simp only [Act.put, List.setIfInBounds_toArray, List.set_cons_succ, List.set_cons_zero]
          have h12 := h9.put 0 [.slice A9 ((wkY.take i).length + 1) c9] (by simp)
          have f12 := Fr.setCells X9 B2 0 [.slice A9 ((wkY.take i).length + 1) c9]
          refine wpAnyH_ready (rs := [12]) (by kernel_rfl) (by simp) (gskp 12 none rfl (by kernel_rfl) (by kernel_rfl) (ex_store (t := 71) (b := B2) (p := 0) (vs := [.slice A9 ((wkY.take i).length + 1) c9]) rfl rfl rfl rfl (by simp [Value.oneCell']) siz72 h9 (by simp)) trivial ?_ AllReadyH.nil)
          simp only [Act.put, List.setIfInBounds_toArray, List.set_cons_succ, List.set_cons_zero]
          refine wpAnyH_done (by kernel_rfl) ?_ _
          try simp only [Act.put, List.setIfInBounds_toArray, List.set_cons_succ, List.set_cons_zero]
          generalize X9.setCells B2 0 [.slice A9 ((wkY.take i).length + 1) c9] = X12 at *
          have FIN := RG.Is.added hI0 F8 O9 hg9 hf9 f12 h12 (sV_size (wk_good hmem).1) h5
          have HFIN : Hid (∃ sv, (RG.mk B2 M1 sv (wkY.take (i + 1))).Is X12 0 0 (fun _ => none) ∧ Fr w X12 [] ∧ (∀ b ∈ (RG.mk B2 M1 sv (wkY.take (i + 1))).blocks, w.heap.size ≤ b)) := hide (by
            rw [wkY_take i hs]
            refine ⟨_, FIN.1, (unhide HI2).2.1.drew.trans FIN.2.1 (fun b hb => .inr ((unhide HI2).2.2 b hb)), fun b hb => ?_⟩
            unfold RG.blocks at hb
            simp only [List.mem_cons] at hb
            rcases hb with rfl | rfl | hb
            · exact (unhide HI2).2.2 _ (by simp [RG.blocks])
            · exact (unhide HI2).2.2 _ (by simp [RG.blocks])
            · rcases FIN.2.2 b (by simpa using hb) with e | e
              · exact (unhide HI2).2.2 b (by unfold RG.blocks; exact List.mem_cons_of_mem _ (List.mem_cons_of_mem _ (by rw [e]; simp)))
              · exact Nat.le_trans (unhide HI2).2.1.drew.size e)
          clear FIN h12 f12 h9 O9 hg9 hf9 hN8 F8 O8 h8 h6 O6 bl hb6 h0 O0 hI0 HC hne h5 hX8 hB8 hS0
          go_wp2
          go_roundg (13 - (i + 1))
          case measure => omega
          case rel => exact ⟨i + 1, by go_num, by omega, by omega, HFIN⟩
    · have hlz : decide ((i : Int) < 13) = false := decide_eq_false (by omega)
      have hi13 : i = 13 := by omega
      subst hi13
      obtain ⟨sv, HI2⟩ := unhide HI
      replace HI2 := hide HI2
      clear HI hlt
      go_wp2
      go_ret
      refine ⟨RG.mk B2 M1 sv wkY, rfl, ?_, rfl, (unhide HI2).2.2, (unhide HI2).2.1.below⟩
      exact (unhide HI2).1
end Go.Proofs.YtkpfikeggleenaaGreatDoor
