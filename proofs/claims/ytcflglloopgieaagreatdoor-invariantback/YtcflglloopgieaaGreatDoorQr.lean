import Derived.Test.YtcflglloopgieaaGreatDoorQq

/-! Ij -/
namespace Go.Proofs.YtcflglloopgieaaGreatDoor
open Go Go.Proofs Go.Maps Go.RowKit FM
set_option linter.unusedSimpArgs false
set_option linter.unusedVariables false
set_option maxHeartbeats 1000000
theorem bC1 (s : SH) (A : Option Addr) (c : Nat) (w : World) : (Instr.build 46 #[(0, .agg (s.cs A c).toArray), (2, .bool true)]).run Tryz.prog w = .ok (.agg (CO.cs ⟨s, A, c, zeroS, none, 0, true⟩).toArray) w := by kernel_rfl
theorem bC2 (s r : SH) (A B : Option Addr) (c d : Nat) (w : World) : (Instr.build 46 #[(0, .agg (s.cs A c).toArray), (1, .agg (r.cs B d).toArray)]).run Tryz.prog w = .ok (.agg (CO.cs ⟨s, A, c, r, B, d, false⟩).toArray) w := by kernel_rfl
theorem ex_bC1 {o : Oper} {a : Act} {w : World} {x y : Operand} {s : SH} {A : Option Addr} {c : Nat} (ho : o.op = .build 46 #[(0, x), (2, y)]) (hx : a.eval x = .agg (s.cs A c).toArray) (hy : a.eval y = .bool true) : (execOp a.eval o).run Tryz.prog w = .ok (.value (.agg (CO.cs ⟨s, A, c, zeroS, none, 0, true⟩).toArray)) w := by
  have e := bC1 s A c w
  unfold execOp
  simp only [ho, List.map_toArray, List.map_cons, List.map_nil, hx, hy]
  simp [e]
theorem ex_bC2 {o : Oper} {a : Act} {w : World} {x y : Operand} {s r : SH} {A B : Option Addr} {c d : Nat} (ho : o.op = .build 46 #[(0, x), (1, y)]) (hx : a.eval x = .agg (s.cs A c).toArray) (hy : a.eval y = .agg (r.cs B d).toArray) : (execOp a.eval o).run Tryz.prog w = .ok (.value (.agg (CO.cs ⟨s, A, c, r, B, d, false⟩).toArray)) w := by
  have e := bC2 s r A B c d w
  unfold execOp
  simp only [ho, List.map_toArray, List.map_cons, List.map_nil, hx, hy]
  simp [e]
def zeroC : CO := ⟨zeroS, none, 0, zeroS, none, 0, false⟩
/-- The course of an object. -/
def CoPost (w0 w : World) (bs ns : List SH) (i : Nat) (e : Ending) (X : World) : Prop := ∃ c : CO, e = .returned c.agg ∧ bs[i]? = some c.was ∧ ReadsP w0 c.wA c.was.ps ∧ ReadsP w0 c.iA c.is.ps ∧ c.was.ps.length ≤ 733007751850 ∧ c.is.ps.length ≤ 733007751850 ∧ c.was.p.x < 2 ^ 64 ∧ c.is.p.x < 2 ^ 64 ∧ ((c.gone = true ∧ ns[i]? = none ∧ c.is = zeroS) ∨ (c.gone = false ∧ ns[i]? = some c.is)) ∧ Below w.heap.size w X
set_option maxHeartbeats 2000000 in
set_option maxRecDepth 100000 in
theorem courseOf_any (A B : Option Addr) (cap cap2 : Nat) (bs ns : List SH) (i : Nat) (w0 w : World) (hB : ReadsS w0 A bs) (hC : ReadsS w0 B ns) (hf : Fr w0 w []) (hi : i < bs.length) (hz : bs.length ≤ 100000) (hz2 : ns.length ≤ 100000) : Calls Tryz.prog 20 #[.slice A bs.length cap, .slice B ns.length cap2, .int .i64 (i : Nat)] w (CoPost w0 w bs ns i) := by
  have LL := hide (Hq.nil w [])
  obtain ⟨s, hs⟩ : ∃ s, bs[i]? = some s := ⟨_, List.getElem?_eq_getElem hi⟩
  obtain ⟨hx, hl, b, off, SA, sc, hA, hb, hrp, hrg⟩ := hB i s hs
  have HA := hide hA
  have HA2 : Hid (∀ X, Fr w X [] → X.rangeAt b (off + i * 8) (s.cs SA sc)) := hide (fun X hX => rangeAt_fr hrg hb (hf.trans hX (by simp)))
  have HLT := hide hi
  by_cases hia : i < ns.length
  · obtain ⟨r, hr⟩ : ∃ r, ns[i]? = some r := ⟨_, List.getElem?_eq_getElem hia⟩
    obtain ⟨hx2, hl2, b2, off2, RA, rc, hA3, hb2, hrp2, hrg2⟩ := hC i r hr
    have dge : decide ((ns.length : Int) ≤ (i : Int)) = false := decide_eq_false (by omega)
    go_enter Tryz.func20, Tryz.ntmps20
    go_wp2_with (first | go_skip | ((with_reducible show wpList _ _ _ _ _ _); first | ((refine alG 46 (zeroC.cs) (by rfl) rfl (fun w => by kernel_rfl) (Nat.succ_pos _) (unhide LL) ?_); intro X1 B1 hE1 L1 hb1; have hB1 := hide (Nat.le_trans (unhide LL).fr.size (Nat.le_of_eq hE1.symm)); replace LL := hide L1; clear L1 hb1 hE1; simp only [Act.put, List.setIfInBounds_toArray, List.set_cons_succ, List.set_cons_zero]) | ((refine rd (by rfl) (ex_lenG 22 34 Tryz.underlying22 rfl rfl) ?_); simp only [Act.put, List.setIfInBounds_toArray, List.set_cons_succ, List.set_cons_zero])))
    have hq0 : Hq w _ [] [(B1, zeroC.cs)] := (unhide LL).drew
    have hq1 := hq0.put 0 rfl 0 (CO.cs ⟨s, SA, sc, r, RA, rc, false⟩) (by simp [CO.cs, SH.cs, VV.cs, zeroC, zeroS, zeroV]) (.inr (unhide hB1))
    have e1 : cput zeroC.cs 0 (CO.cs ⟨s, SA, sc, r, RA, rc, false⟩) = CO.cs ⟨s, SA, sc, r, RA, rc, false⟩ := by simp [cput, CO.cs, SH.cs, VV.cs, zeroC, zeroS, zeroV]
    rw [e1] at hq1
    have hf0 : Fr w _ [] := hq0.fr
    refine wp_region_held_drew (P := Tryz.prog) (S := fun X => Fr w X []) (by kernel_rfl) hf0 (fun hS0 => ?_)
    refine gsem 0 (some 16) (.slice A bs.length cap) rfl (by kernel_rfl) (by kernel_rfl) (by kernel_rfl) (fun _ _ _ h => h) (by kernel_rfl) (by kernel_rfl) (fun _ _ => by kernel_rfl) hf0 ?_
    simp only [Act.put, List.setIfInBounds_toArray, List.set_cons_succ, List.set_cons_zero]
    refine gsem 1 (some 17) (.int .i64 (i : Nat)) rfl (by kernel_rfl) (by kernel_rfl) (by kernel_rfl) (fun _ _ _ h => h) (by kernel_rfl) (by kernel_rfl) (fun _ _ => by kernel_rfl) hf0 ?_
    simp only [Act.put, List.setIfInBounds_toArray, List.set_cons_succ, List.set_cons_zero]
    refine gsem 2 (some 18) (.pointer (some ⟨b, off + i * 8, none⟩)) rfl (by kernel_rfl) (by kernel_rfl) (by kernel_rfl) (fun _ _ _ h => h) (by kernel_rfl) (by kernel_rfl) (fun X hX => ex_indexA 22 8 i unSs idSs rfl rfl hA rfl hi) hf0 ?_
    simp only [Act.put, List.setIfInBounds_toArray, List.set_cons_succ, List.set_cons_zero]
    refine gsem 3 (some 19) (.agg (s.cs SA sc).toArray) rfl (by kernel_rfl) (by kernel_rfl) (by kernel_rfl) (fun _ _ _ h => h) (by kernel_rfl) (by kernel_rfl) (fun X hX => ex_loadR (vs := s.cs SA sc) 34 8 rwS szS rfl rfl (rangeAt_fr hrg hb (hf.trans hX (by simp))) rfl) hf0 ?_
    simp only [Act.put, List.setIfInBounds_toArray, List.set_cons_succ, List.set_cons_zero]
    refine gsem 4 (some 20) (.slice B ns.length cap2) rfl (by kernel_rfl) (by kernel_rfl) (by kernel_rfl) (fun _ _ _ h => h) (by kernel_rfl) (by kernel_rfl) (fun _ _ => by kernel_rfl) hf0 ?_
    simp only [Act.put, List.setIfInBounds_toArray, List.set_cons_succ, List.set_cons_zero]
    refine gsem 5 (some 21) (.int .i64 (i : Nat)) rfl (by kernel_rfl) (by kernel_rfl) (by kernel_rfl) (fun _ _ _ h => h) (by kernel_rfl) (by kernel_rfl) (fun _ _ => by kernel_rfl) hf0 ?_
    simp only [Act.put, List.setIfInBounds_toArray, List.set_cons_succ, List.set_cons_zero]
    refine gsem 6 (some 22) (.pointer (some ⟨b2, off2 + i * 8, none⟩)) rfl (by kernel_rfl) (by kernel_rfl) (by kernel_rfl) (fun _ _ _ h => h) (by kernel_rfl) (by kernel_rfl) (fun X hX => ex_indexA 22 8 i unSs idSs rfl rfl hA3 rfl hia) hf0 ?_
    simp only [Act.put, List.setIfInBounds_toArray, List.set_cons_succ, List.set_cons_zero]
    refine gsem 7 (some 23) (.agg (r.cs RA rc).toArray) rfl (by kernel_rfl) (by kernel_rfl) (by kernel_rfl) (fun _ _ _ h => h) (by kernel_rfl) (by kernel_rfl) (fun X hX => ex_loadR (vs := r.cs RA rc) 34 8 rwS szS rfl rfl (rangeAt_fr hrg2 hb2 (hf.trans hX (by simp))) rfl) hf0 ?_
    simp only [Act.put, List.setIfInBounds_toArray, List.set_cons_succ, List.set_cons_zero]
    refine gsem 8 (some 24) (.agg (CO.cs ⟨s, SA, sc, r, RA, rc, false⟩).toArray) rfl (by kernel_rfl) (by kernel_rfl) (by kernel_rfl) (fun _ _ _ h => h) (by kernel_rfl) (by kernel_rfl) (fun X hX => ex_bC2 rfl rfl rfl) hf0 ?_
    simp only [Act.put, List.setIfInBounds_toArray, List.set_cons_succ, List.set_cons_zero]
    refine wpAnyH_ready (rs := [9]) (by kernel_rfl) (by simp) (gskp 9 none rfl (by kernel_rfl) (by kernel_rfl) (ex_store (t := 46) (vs := CO.cs ⟨s, SA, sc, r, RA, rc, false⟩) rfl rfl rfl rfl (cocs_one _) szC (hq0.get 0 rfl) (by simp [CO.cs, SH.cs, VV.cs, zeroC, zeroS, zeroV])) (hq0.put 0 rfl 0 _ (by simp [CO.cs, SH.cs, VV.cs, zeroC, zeroS, zeroV]) (.inr (unhide hB1))).fr ?_ AllReadyH.nil)
    simp only [Act.put, List.setIfInBounds_toArray, List.set_cons_succ, List.set_cons_zero]
    refine wpAnyH_done (by kernel_rfl) ?_ _
    try simp only [Act.put, List.setIfInBounds_toArray, List.set_cons_succ, List.set_cons_zero]
    go_wp2
    refine ret_c (cs := CO.cs ⟨s, SA, sc, r, RA, rc, false⟩) rwC szC rfl rfl rfl (hq1.get 0 rfl) rfl ?_
    exact ⟨⟨s, SA, sc, r, RA, rc, false⟩, rfl, hs, hrp, hrp2, hl, hl2, hx, hx2, .inr ⟨rfl, hr⟩, hq1.fr.below⟩
  · have dge : decide ((ns.length : Int) ≤ (i : Int)) = true := decide_eq_true (by omega)
    go_enter Tryz.func20, Tryz.ntmps20
    go_wp2_with (first | go_skip | ((with_reducible show wpList _ _ _ _ _ _); first | ((refine alG 46 (zeroC.cs) (by rfl) rfl (fun w => by kernel_rfl) (Nat.succ_pos _) (unhide LL) ?_); intro X1 B1 hE1 L1 hb1; have hB1 := hide (Nat.le_trans (unhide LL).fr.size (Nat.le_of_eq hE1.symm)); replace LL := hide L1; clear L1 hb1 hE1; simp only [Act.put, List.setIfInBounds_toArray, List.set_cons_succ, List.set_cons_zero]) | ((refine rd (by rfl) (ex_lenG 22 34 Tryz.underlying22 rfl rfl) ?_); simp only [Act.put, List.setIfInBounds_toArray, List.set_cons_succ, List.set_cons_zero]) | ((refine rd (by rfl) (ex_indexA 22 8 i unSs idSs rfl rfl (unhide HA) rfl (unhide HLT)) ?_); simp only [Act.put, List.setIfInBounds_toArray, List.set_cons_succ, List.set_cons_zero]) | ((refine rd (by rfl) (ex_loadR (vs := s.cs SA sc) 34 8 rwS szS rfl rfl (unhide HA2 _ (unhide LL).fr) rfl) ?_); simp only [Act.put, List.setIfInBounds_toArray, List.set_cons_succ, List.set_cons_zero]) | ((refine rd (by rfl) (ex_bC1 rfl rfl rfl) ?_); simp only [Act.put, List.setIfInBounds_toArray, List.set_cons_succ, List.set_cons_zero]) | ((refine st (vs := CO.cs ⟨s, SA, sc, zeroS, none, 0, true⟩) 0 46 (by rfl) rfl rfl rfl rfl (cocs_one _) szC (unhide LL) rfl (by simp [cput, CO.cs, SH.cs, VV.cs, zeroC, zeroS, zeroV]) (Or.inr (unhide hB1)) ?_); intro X4 L4 hf4 hs4; replace LL := hide L4; clear L4 hf4 hs4; simp only [Act.put, List.setIfInBounds_toArray, List.set_cons_succ, List.set_cons_zero])))
    refine ret_c (cs := CO.cs ⟨s, SA, sc, zeroS, none, 0, true⟩) rwC szC rfl rfl rfl ((unhide LL).get 0 rfl) rfl ?_
    exact ⟨⟨s, SA, sc, zeroS, none, 0, true⟩, rfl, hs, hrp, (fun j p hp => by simp [zeroS] at hp), hl, (by simp [zeroS]), hx, (by simp [zeroS, zeroV]), .inl ⟨rfl, List.getElem?_eq_none (by omega), rfl⟩, (unhide LL).fr.below⟩
def ruleCs : List Value := [.int .i64 1, .func (.func 36) #[] #[], .int .i64 2, .func (.func 37) #[] #[], .int .i64 3, .func (.func 38) #[] #[], .int .i64 4, .func (.func 39) #[] #[], .int .i64 5, .func (.func 40) #[] #[], .int .i64 6, .func (.func 41) #[] #[]]
theorem bR0 (w : World) : (Instr.build 50 #[(0, .int .i64 1), (1, .func (.func 36) #[] #[])]).run Tryz.prog w = .ok (.agg #[.int .i64 1, .func (.func 36) #[] #[]]) w := by kernel_rfl
theorem bR1 (w : World) : (Instr.build 50 #[(0, .int .i64 2), (1, .func (.func 37) #[] #[])]).run Tryz.prog w = .ok (.agg #[.int .i64 2, .func (.func 37) #[] #[]]) w := by kernel_rfl
theorem bR2 (w : World) : (Instr.build 50 #[(0, .int .i64 3), (1, .func (.func 38) #[] #[])]).run Tryz.prog w = .ok (.agg #[.int .i64 3, .func (.func 38) #[] #[]]) w := by kernel_rfl
theorem bR3 (w : World) : (Instr.build 50 #[(0, .int .i64 4), (1, .func (.func 39) #[] #[])]).run Tryz.prog w = .ok (.agg #[.int .i64 4, .func (.func 39) #[] #[]]) w := by kernel_rfl
theorem bR4 (w : World) : (Instr.build 50 #[(0, .int .i64 5), (1, .func (.func 40) #[] #[])]).run Tryz.prog w = .ok (.agg #[.int .i64 5, .func (.func 40) #[] #[]]) w := by kernel_rfl
theorem bR5 (w : World) : (Instr.build 50 #[(0, .int .i64 6), (1, .func (.func 41) #[] #[])]).run Tryz.prog w = .ok (.agg #[.int .i64 6, .func (.func 41) #[] #[]]) w := by kernel_rfl
theorem infR : (Tryz.prog.info? 50).map (fun i => (i.zero, i.size, i.bytes)) = some (some (.agg #[.int .i64 0, .nilFunc]), 2, 16) := by kernel_rfl
theorem fill6 : Instr.fill (fun i => some (i * 2, 2)) ((Array.range (6 * 2)).map ((Value.agg #[.int .i64 0, .nilFunc]).cells[· % (Value.agg #[.int .i64 0, .nilFunc]).cells.size]!)) [(0, .agg #[.int .i64 1, .func (.func 36) #[] #[]]), (1, .agg #[.int .i64 2, .func (.func 37) #[] #[]]), (2, .agg #[.int .i64 3, .func (.func 38) #[] #[]]), (3, .agg #[.int .i64 4, .func (.func 39) #[] #[]]), (4, .agg #[.int .i64 5, .func (.func 40) #[] #[]]), (5, .agg #[.int .i64 6, .func (.func 41) #[] #[]])] = some ruleCs.toArray := by kernel_rfl
theorem build6 {ops : Array Oper} {rest : List Oper} {Q : Exit → Act → World → Prop} {w w0 : World} {a : Act} {o : Oper} {x0 x1 x2 x3 x4 x5 : Operand} {E : List Nat} {L : List (Nat × List Value)} (hw : Region.wanted o (yielded ops a.tmps) = true) (ho : o.op = .buildSlice 43 6 #[(0, x0), (1, x1), (2, x2), (3, x3), (4, x4), (5, x5)]) (h0 : a.eval x0 = .agg #[.int .i64 1, .func (.func 36) #[] #[]]) (h1 : a.eval x1 = .agg #[.int .i64 2, .func (.func 37) #[] #[]]) (h2 : a.eval x2 = .agg #[.int .i64 3, .func (.func 38) #[] #[]]) (h3 : a.eval x3 = .agg #[.int .i64 4, .func (.func 39) #[] #[]]) (h4 : a.eval x4 = .agg #[.int .i64 5, .func (.func 40) #[] #[]]) (h5 : a.eval x5 = .agg #[.int .i64 6, .func (.func 41) #[] #[]]) (hL : Hq w0 w E L)
    (h : ∀ X B, B = w.heap.size → Hq w0 X E (L ++ [(B, ruleCs)]) → Below w.heap.size w X → wpList Tryz.prog ops Q rest (a.put o.dst (.slice (some ⟨B, 0, none⟩) 6 6)) X) : wpList Tryz.prog ops Q (o :: rest) a w := by
  refine BigFrame.wpList_want hw fun K hK => ?_
  obtain ⟨i0, hi, hz0, hz1, hz2⟩ := info_parts infR
  refine wp_buildSlice 43 50 6 _ ho ruleCs.toArray i0 _ Tryz.underlying43 hi hz0 (by rw [hz1]; omega) (by rw [hz1]; omega) ?_ (hK _ _ (h _ _ rfl (hL.new _ 50 (by decide)) ((Below.refl _ _).alloc (Nat.le_refl _) _)))
  rw [hz1]
  simp only [List.map_toArray, List.map_cons, List.map_nil, h0, h1, h2, h3, h4, h5]
  exact fill6
def RuPost (w : World) (e : Ending) (X : World) : Prop := ∃ B : Nat, e = .returned (.slice (some ⟨B, 0, none⟩) 6 6) ∧ w.heap.size ≤ B ∧ Hq w X [] [(B, ruleCs)]
attribute [local go_sem] bR0 bR1 bR2 bR3 bR4 bR5
set_option maxRecDepth 100000 in
theorem rules_any (w : World) : Calls Tryz.prog 19 #[] w (RuPost w) := by
  have LL := hide (Hq.nil w [])
  go_enter Tryz.func19, Tryz.ntmps19
  go_wp2_with (first | go_skip | ((with_reducible show wpList _ _ _ _ _ _); first | ((refine build6 (by rfl) rfl rfl rfl rfl rfl rfl rfl (unhide LL) ?_); intro X1 B1 hE1 L1 hb1; have hB1 := hide (Nat.le_trans (unhide LL).fr.size (Nat.le_of_eq hE1.symm)); replace LL := hide L1; clear L1 hb1 hE1; simp only [Act.put, List.setIfInBounds_toArray, List.set_cons_succ, List.set_cons_zero])))
  go_ret
  exact ⟨B1, rfl, unhide hB1, unhide LL⟩
end Go.Proofs.YtcflglloopgieaaGreatDoor
