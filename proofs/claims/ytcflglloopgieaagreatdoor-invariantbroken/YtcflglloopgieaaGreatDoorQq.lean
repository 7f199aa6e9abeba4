import Derived.Test.YtcflglloopgieaaGreatDoorQp

/-! Ij -/
namespace Go.Proofs.YtcflglloopgieaaGreatDoor
open Go Go.Proofs Go.Maps Go.RowKit FM
set_option linter.unusedSimpArgs false
set_option linter.unusedVariables false
set_option maxHeartbeats 1000000
theorem bC1 (s : SH) (A : Option Addr) (c : Nat) (w : World) : (Instr.build 46 #[(0, .agg (s.cs A c).toArray), (2, .bool true)]).run Tryz.prog w = .ok (.agg (CO.cs ⟨s, A, c, zeroS, none, 0, true⟩).toArray) w := by kernel_rfl
theorem bC2 (s r : SH) (A B : Option Addr) (c d : Nat) (w : World) : (Instr.build 46 #[(0, .agg (s.cs A c).toArray), (1, .agg (r.cs B d).toArray)]).run Tryz.prog w = .ok (.agg (CO.cs ⟨s, A, c, r, B, d, false⟩).toArray) w := by kernel_rfl
theorem ex_bC1 {o : Oper} {a : Act} {w : World} {x y : Operand} {s : SH} {A : Option Addr} {c : Nat} (ho : o.op = .build 46 #[(0, x), (2, y)]) (hx : a.eval x = .agg (s.cs A c).toArray) (hy : a.eval y = .bool true) : (execOp a.eval o).run Tryz.prog w = .ok (.value (.agg (CO.cs ⟨s, A, c, zeroS, none, 0, true⟩).toArray)) w := by
  have e := bC1 s A c w
  unfold execOp
  simp only [ho, List.map_toArray, List.map_cons, List.map_nil, hx, hy]
  simp [e]
theorem ex_bC2 {o : Oper} {a : Act} {w : World} {x y : Operand} {s r : SH} {A B : Option Addr} {c d : Nat} (ho : o.op = .build 46 #[(0, x), (1, y)]) (hx : a.eval x = .agg (s.cs A c).toArray) (hy : a.eval y = .agg (r.cs B d).toArray) : (execOp a.eval o).run Tryz.prog w = .ok (.value (.agg (CO.cs ⟨s, A, c, r, B, d, false⟩).toArray)) w := by
  have e := bC2 s r A B c d w
  unfold execOp
  simp only [ho, List.map_toArray, List.map_cons, List.map_nil, hx, hy]
  simp [e]
def zeroC : CO := ⟨zeroS, none, 0, zeroS, none, 0, false⟩
/-- The course of an object. -/
def CoPost (w0 w : World) (bs ns : List SH) (i : Nat) (e : Ending) (X : World) : Prop := ∃ c : CO, e = .returned c.agg ∧ bs[i]? = some c.was ∧ ReadsP w0 c.wA c.was.ps ∧ ReadsP w0 c.iA c.is.ps ∧ c.was.ps.length ≤ 733007751850 ∧ c.is.ps.length ≤ 733007751850 ∧ c.was.p.x < 2 ^ 64 ∧ c.is.p.x < 2 ^ 64 ∧ ((c.gone = true ∧ ns[i]? = none ∧ c.is = zeroS) ∨ (c.gone = false ∧ ns[i]? = some c.is)) ∧ Below w.heap.size w X
set_option maxHeartbeats 2000000 in
set_option maxRecDepth 100000 in
theorem courseOf_any (A B : Option Addr) (cap cap2 : Nat) (bs ns : List SH) (i : Nat) (w0 w : World) (hB : ReadsS w0 A bs) (hC : ReadsS w0 B ns) (hf : Fr w0 w []) (hi : i < bs.length) (hz : bs.length ≤ 100000) (hz2 : ns.length ≤ 100000) : Calls Tryz.prog 20 #[.slice A bs.length cap, .slice B ns.length cap2, .int .i64 (i : Nat)] w (CoPost w0 w bs ns i) := by
  have LL := hide (Hq.nil w [])
  obtain ⟨s, hs⟩ : ∃ s, bs[i]? = some s := ⟨_, List.getElem?_eq_getElem hi⟩
  obtain ⟨hx, hl, b, off, SA, sc, hA, hb, hrp, hrg⟩ := hB i s hs
  have HA := hide hA
  have HA2 : Hid (∀ X, Fr w X [] → X.rangeAt b (off + i * 8) (s.cs SA sc)) := hide (fun X hX => rangeAt_fr hrg hb (hf.trans hX (by simp)))
  have HLT := hide hi
  by_cases hia : i < ns.length
  · obtain ⟨r, hr⟩ : ∃ r, ns[i]? = some r := ⟨_, List.getElem?_eq_getElem hia⟩
    obtain ⟨hx2, hl2, b2, off2, RA, rc, hA3, hb2, hrp2, hrg2⟩ := hC i r hr
    have dge : decide ((ns.length : Int) ≤ (i : Int)) = false := decide_eq_false (by omega)
    go_enter Tryz.func20, Tryz.ntmps20
    go_wp2_with (first | go_skip | ((with_reducible show wpList _ _ _ _ _ _); first | ((refine alG 46 (zeroC.cs) (by rfl) rfl (fun w => by kernel_rfl) (Nat.succ_pos _) (unhide LL) ?_); intro X1 B1 hE1 L1 hb1; have hB1 := hide (Nat.le_trans (unhide LL).fr.size (Nat.le_of_eq hE1.symm)); replace LL := hide L1; clear L1 hb1 hE1; simp only [Act.put, List.setIfInBounds_toArray, List.set_cons_succ, List.set_cons_zero]) | ((refine rd (by rfl) (ex_lenG 22 34 Tryz.underlying22 rfl rfl) ?_); simp only [Act.put, List.setIfInBounds_toArray, List.set_cons_succ, List.set_cons_zero])))
    have hq0 : Hq w _ [] [(B1, zeroC.cs)] := (unhide LL).drew
    have hq1 := hq0.put 0 rfl 0 (CO.cs ⟨s, SA, sc, r, RA, rc, false⟩) (by simp [CO.cs, SH.cs, VV.cs, zeroC, zeroS, zeroV]) (.inr (unhide hB1))
    have e1 : cput zeroC.cs 0 (CO.cs ⟨s, SA, sc, r, RA, rc, false⟩) = CO.cs ⟨s, SA, sc, r, RA, rc, false⟩ := by simp [cput, CO.cs, SH.cs, VV.cs, zeroC, zeroS, zeroV]
    rw [e1] at hq1
    have hf0 : Fr w _ [] := hq0.fr
    refine wp_region_held_drew (P := Tryz.prog) (S := fun X => Fr w X []) (by kernel_rfl) hf0 (fun hS0 => ?_)
    refine gsem 0 (some 16) (.slice A bs.length cap) rfl (by kernel_rfl) (by kernel_rfl) (by kernel_rfl) (fun _ _ _ h => h) (by kernel_rfl) (by kernel_rfl) (fun _ _ => by kernel_rfl) hf0 ?_
    simp only [Act.put, List.setIfInBounds_toArray, List.set_cons_succ, List.set_cons_zero]
    refine gsem 1 (some 17) (.int .i64 (i : Nat)) rfl (by kernel_rfl) (by kernel_rfl) (by kernel_rfl) (fun _ _ _ h => h) (by kernel_rfl) (by kernel_rfl) (fun _ _ => by kernel_rfl) hf0 ?_
    simp only [Act.put, List.setIfInBounds_toArray, List.set_cons_succ, List.set_cons_zero]
    refine gsem 2 (some 18) (.pointer (some ⟨b, off + i * 8, none⟩)) rfl (by kernel_rfl) (by kernel_rfl) (by kernel_rfl) (fun _ _ _ h => h) (by kernel_rfl) (by kernel_rfl) (fun X hX => ex_indexA 22 8 i unSs idSs rfl rfl hA rfl hi) hf0 ?_
    simp only [Act.put, List.setIfInBounds_toArray, List.set_cons_succ, List.set_cons_zero]
    refine gsem 3 (some 19) (.agg (s.cs SA sc).toArray) rfl (by kernel_rfl) (by kernel_rfl) (by kernel_rfl) (fun _ _ _ h => h) (by kernel_rfl) (by kernel_rfl) (fun X hX => ex_loadR (vs := s.cs SA sc) 34 8 rwS szS rfl rfl (rangeAt_fr hrg hb (hf.trans hX (by simp))) rfl) hf0 ?_
    simp only [Act.put, List.setIfInBounds_toArray, List.set_cons_succ, List.set_cons_zero]
    refine gsem 4 (some 20) (.slice B ns.length cap2) rfl (by kernel_rfl) (by kernel_rfl) (by kernel_rfl) (fun _ _ _ h => h) (by kernel_rfl) (by kernel_rfl) (fun _ _ => by kernel_rfl) hf0 ?_
    simp only [Act.put, List.setIfInBounds_toArray, List.set_cons_succ, List.set_cons_zero]
    refine gsem 5 (some 21) (.int .i64 (i : Nat)) rfl (by kernel_rfl) (by kernel_rfl) (by kernel_rfl) (fun _ _ _ h => h) (by kernel_rfl) (by kernel_rfl) (fun _ _ => by kernel_rfl) hf0 ?_
    simp only [Act.put, List.setIfInBounds_toArray, List.set_cons_succ, List.set_cons_zero]
    refine gsem 6 (some 22) (.pointer (some ⟨b2, off2 + i * 8, none⟩)) rfl (by kernel_rfl) (by kernel_rfl) (by kernel_rfl) (fun _ _ _ h => h) (by kernel_rfl) (by kernel_rfl) (fun X hX => ex_indexA 22 8 i unSs idSs rfl rfl hA3 rfl hia) hf0 ?_
    simp only [Act.put, List.setIfInBounds_toArray, List.set_cons_succ, List.set_cons_zero]
    refine gsem 7 (some 23) (.agg (r.cs RA rc).toArray) rfl (by kernel_rfl) (by kernel_rfl) (by kernel_rfl) (fun _ _ _ h => h) (by kernel_rfl) (by kernel_rfl) (fun X hX => ex_loadR (vs := r.cs RA rc) 34 8 rwS szS rfl rfl (rangeAt_fr hrg2 hb2 (hf.trans hX (by simp))) rfl) hf0 ?_
    simp only [Act.put, List.setIfInBounds_toArray, List.set_cons_succ, List.set_cons_zero]
    refine gsem 8 (some 24) (.agg (CO.cs ⟨s, SA, sc, r, RA, rc, false⟩).toArray) rfl (by kernel_rfl) (by kernel_rfl) (by kernel_rfl) (fun _ _ _ h => h) (by kernel_rfl) (by kernel_rfl) (fun X hX => ex_bC2 rfl rfl rfl) hf0 ?_
    simp only [Act.put, List.setIfInBounds_toArray, List.set_cons_succ, List.set_cons_zero]
    refine wpAnyH_ready (rs := [9]) (by kernel_rfl) (by simp) (gskp 9 none rfl (by kernel_rfl) (by kernel_rfl) (ex_store (t := 46) (vs := CO.cs ⟨s, SA, sc, r, RA, rc, false⟩) rfl rfl rfl rfl (cocs_one _) szC (hq0.get 0 rfl) (by simp [CO.cs, SH.cs, VV.cs, zeroC, zeroS, zeroV])) (hq0.put 0 rfl 0 _ (by simp [CO.cs, SH.cs, VV.cs, zeroC, zeroS, zeroV]) (.inr (unhide hB1))).fr ?_ AllReadyH.nil)
    simp only [Act.put, List.setIfInBounds_toArray, List.set_cons_succ, List.set_cons_zero]
    refine wpAnyH_done (by kernel_rfl) ?_ _
    try simp only [Act.put, List.setIfInBounds_toArray, List.set_cons_succ, List.set_cons_zero]
    go_wp2
    refine ret_c (cs := CO.cs ⟨s, SA, sc, r, RA, rc, false⟩) rwC szC rfl rfl rfl (hq1.get 0 rfl) rfl ?_
    exact ⟨⟨s, SA, sc, r, RA, rc, false⟩, rfl, hs, hrp, hrp2, hl, hl2, hx, hx2, .inr ⟨rfl, hr⟩, hq1.fr.below⟩
  · have dge : decide ((ns.length : Int) ≤ (i : Int)) = true := decide_eq_true (by omega)
    go_enter Tryz.func20, Tryz.ntmps20
    go_wp2_with (first | go_skip | ((with_reducible show wpList _ _ _ _ _ _); first | ((refine alG 46 (zeroC.cs) (by rfl) rfl (fun w => by kernel_rfl) (Nat.succ_pos _) (unhide LL) ?_); intro X1 B1 hE1 L1 hb1; have hB1 := hide (Nat.le_trans (unhide LL).fr.size (Nat.le_of_eq hE1.symm)); replace LL := hide L1; clear L1 hb1 hE1; simp only [Act.put, List.setIfInBounds_toArray, List.set_cons_succ, List.set_cons_zero]) | ((refine rd (by rfl) (ex_lenG 22 34 Tryz.underlying22 rfl rfl) ?_); simp only [Act.put, List.setIfInBounds_toArray, List.set_cons_succ, List.set_cons_zero]) | ((refine rd (by rfl) (ex_indexA 22 8 i unSs idSs rfl rfl (unhide HA) rfl (unhide HLT)) ?_); simp only [Act.put, List.setIfInBounds_toArray, List.set_cons_succ, List.set_cons_zero]) | ((refine rd (by rfl) (ex_loadR (vs := s.cs SA sc) 34 8 rwS szS rfl rfl (unhide HA2 _ (unhide LL).fr) rfl) ?_); simp only [Act.put, List.setIfInBounds_toArray, List.set_cons_succ, List.set_cons_zero]) | ((refine rd (by rfl) (ex_bC1 rfl rfl rfl) ?_); simp only [Act.put, List.setIfInBounds_toArray, List.set_cons_succ, List.set_cons_zero]) | ((refine st (vs := CO.cs ⟨s, SA, sc, zeroS, none, 0, true⟩) 0 46 (by rfl) rfl rfl rfl rfl (cocs_one _) szC (unhide LL) rfl (by simp [cput, CO.cs, SH.cs, VV.cs, zeroC, zeroS, zeroV]) (Or.inr (unhide hB1)) ?_); intro X4 L4 hf4 hs4; replace LL := hide L4; clear L4 hf4 hs4; simp only [Act.put, List.setIfInBounds_toArray, List.set_cons_succ, List.set_cons_zero])))
    refine ret_c (cs := CO.cs ⟨s, SA, sc, zeroS, none, 0, true⟩) rwC szC rfl rfl rfl ((unhide LL).get 0 rfl) rfl ?_
    exact ⟨⟨s, SA, sc, zeroS, none, 0, true⟩, rfl, hs, hrp, (fun j p hp => by simp [zeroS] at hp), hl, (by simp [zeroS]), hx, (by simp [zeroS, zeroV]), .inl ⟨rfl, List.getElem?_eq_none (by omega), rfl⟩, (unhide LL).fr.below⟩
def ruleCs : List Value := [.int .i64 1, .func (.func 36) #[] #[], .int .i64 2, .func (.func 37) #[] #[], .int .i64 3, .func (.func 38) #[] #[], .int .i64 4, .func (.func 39) #[] #[], .int .i64 5, .func (.func 40) #[] #[], .int .i64 6, .func (.func 41) #[] #[]]
theorem bR0 (w : World) : (Instr.build 50 #[(0, .int .i64 1), (1, .func (.func 36) #[] #[])]).run Tryz.prog w = .ok (.agg #[.int .i64 1, .func (.func 36) #[] #[]]) w := by kernel_rfl
theorem bR1 (w : World) : (Instr.build 50 #[(0, .int .i64 2), (1, .func (.func 37) #[] #[])]).run Tryz.prog w = .ok (.agg #[.int .i64 2, .func (.func 37) #[] #[]]) w := by kernel_rfl
theorem bR2 (w : World) : (Instr.build 50 #[(0, .int .i64 3), (1, .func (.func 38) #[] #[])]).run Tryz.prog w = .ok (.agg #[.int .i64 3, .func (.func 38) #[] #[]]) w := by kernel_rfl
theorem bR3 (w : World) : (Instr.build 50 #[(0, .int .i64 4), (1, .func (.func 39) #[] #[])]).run Tryz.prog w = .ok (.agg #[.int .i64 4, .func (.func 39) #[] #[]]) w := by kernel_rfl
theorem bR4 (w : World) : (Instr.build 50 #[(0, .int .i64 5), (1, .func (.func 40) #[] #[])]).run Tryz.prog w = .ok (.agg #[.int .i64 5, .func (.func 40) #[] #[]]) w := by kernel_rfl
theorem bR5 (w : World) : (Instr.build 50 #[(0, .int .i64 6), (1, .func (.func 41) #[] #[])]).run Tryz.prog w = .ok (.agg #[.int .i64 6, .func (.func 41) #[] #[]]) w := by kernel_rfl
theorem infR : (Tryz.prog.info? 50).map (fun i => (i.zero, i.size, i.bytes)) = some (some (.agg #[.int .i64 0, .nilFunc]), 2, 16) := by kernel_rfl
theorem fill6 : Instr.fill (fun i => some (i * 2, 2)) ((Array.range (6 * 2)).map ((Value.agg #[.int .i64 0, .nilFunc]).cells[· % (Value.agg #[.int .i64 0, .nilFunc]).cells.size]!)) [(0, .agg #[.int .i64 1, .func (.func 36) #[] #[]]), (1, .agg #[.int .i64 2, .func (.func 37) #[] #[]]), (2, .agg #[.int .i64 3, .func (.func 38) #[] #[]]), (3, .agg #[.int .i64 4, .func (.func 39) #[] #[]]), (4, .agg #[.int .i64 5, .func (.func 40) #[] #[]]), (5, .agg #[.int .i64 6, .func (.func 41) #[] #[]])] = some ruleCs.toArray := by kernel_rfl
theorem build6 {ops : Array Oper} {rest : List Oper} {Q : Exit → Act → World → Prop} {w w0 : World} {a : Act} {o : Oper} {x0 x1 x2 x3 x4 x5 : Operand} {E : List Nat} {L : List (Nat × List Value)} (hw : Region.wanted o (yielded ops a.tmps) = true) (ho : o.op = .buildSlice 43 6 #[(0, x0), (1, x1), (2, x2), (3, x3), (4, x4), (5, x5)]) (h0 : a.eval x0 = .agg #[.int .i64 1, .func (.func 36) #[] #[]]) (h1 : a.eval x1 = .agg #[.int .i64 2, .func (.func 37) #[] #[]]) (h2 : a.eval x2 = .agg #[.int .i64 3, .func (.func 38) #[] #[]]) (h3 : a.eval x3 = .agg #[.int .i64 4, .func (.func 39) #[] #[]]) (h4 : a.eval x4 = .agg #[.int .i64 5, .func (.func 40) #[] #[]]) (h5 : a.eval x5 = .agg #[.int .i64 6, .func (.func 41) #[] #[]]) (hL : Hq w0 w E L)
    (h : ∀ X B, B = w.heap.size → Hq w0 X E (L ++ [(B, ruleCs)]) → Below w.heap.size w X → wpList Tryz.prog ops Q rest (a.put o.dst (.slice (some ⟨B, 0, none⟩) 6 6)) X) : wpList Tryz.prog ops Q (o :: rest) a w := by
  refine BigFrame.wpList_want hw fun K hK => ?_
  obtain ⟨i0, hi, hz0, hz1, hz2⟩ := info_parts infR
  refine wp_buildSlice 43 50 6 _ ho ruleCs.toArray i0 _ Tryz.underlying43 hi hz0 (by rw [hz1]; omega) (by rw [hz1]; omega) ?_ (hK _ _ (h _ _ rfl (hL.new _ 50 (by decide)) ((Below.refl _ _).alloc (Nat.le_refl _) _)))
  rw [hz1]
  simp only [List.map_toArray, List.map_cons, List.map_nil, h0, h1, h2, h3, h4, h5]
  exact fill6
def RuPost (w : World) (e : Ending) (X : World) : Prop := ∃ B : Nat, e = .returned (.slice (some ⟨B, 0, none⟩) 6 6) ∧ w.heap.size ≤ B ∧ Hq w X [] [(B, ruleCs)]
attribute [local go_sem] bR0 bR1 bR2 bR3 bR4 bR5
set_option maxRecDepth 100000 in
theorem rules_any (w : World) : Calls Tryz.prog 19 #[] w (RuPost w) := by
  have LL := hide (Hq.nil w [])
  go_enter Tryz.func19, Tryz.ntmps19
  go_wp2_with (first | go_skip | ((with_reducible show wpList _ _ _ _ _ _); first | ((refine build6 (by rfl) rfl rfl rfl rfl rfl rfl rfl (unhide LL) ?_); intro X1 B1 hE1 L1 hb1; have hB1 := hide (Nat.le_trans (unhide LL).fr.size (Nat.le_of_eq hE1.symm)); replace LL := hide L1; clear L1 hb1 hE1; simp only [Act.put, List.setIfInBounds_toArray, List.set_cons_succ, List.set_cons_zero])))
  go_ret
  exact ⟨B1, rfl, unhide hB1, unhide LL⟩
end Go.Proofs.YtcflglloopgieaaGreatDoor

/-! Ik -/
namespace Go.Proofs.YtcflglloopgieaaGreatDoor
open Go Go.Proofs Go.Maps Go.RowKit FM
set_option linter.unusedSimpArgs false
set_option linter.unusedVariables false
set_option maxHeartbeats 1000000
theorem ex_addI {o : Oper} {a : Act} {w : World} {x y : Operand} {n m r : Int} (ho : o.op = .binOp .add 3 x y 3) (hx : a.eval x = .int .i64 n) (hc : a.eval y = .int .i64 m) (h : IntKind.i64.wrap (n + m) = r) : (execOp a.eval o).run Tryz.prog w = .ok (.value (.int .i64 r)) w := by
  unfold execOp
  simp only [ho, hx, hc]
  simp [go_sem, eqGuard, h]
def rbV (c : CO) : Nat → Bool
  | 0 => c.gone
  | 1 => clV c
  | 2 => oaV c
  | 3 => opV c
  | 4 => mkV c
  | _ => prV c
theorem rbV_congr {c d : CO} (h1 : c.was = d.was) (h2 : c.is = d.is) (h3 : c.gone = d.gone) (j : Nat) : rbV c j = rbV d j := by
  obtain ⟨a, A, x, b, B, y, g⟩ := c
  obtain ⟨a', A', x', b', B', y', g'⟩ := d
  dsimp only at h1 h2 h3
  subst h1 h2 h3
  match j with
  | 0 => rfl
  | 1 => rfl
  | 2 => rfl
  | 3 => rfl
  | 4 => rfl
  | _ + 5 => rfl
def coA (bs ns : List SH) (i : Nat) : CO := ⟨bs.getD i zeroS, none, 0, ns.getD i zeroS, none, 0, ns[i]?.isNone⟩
def NoR (c : CO) (j : Nat) : Prop := ∀ q, q < j → rbV c q = false
theorem NoR.zero (c : CO) : NoR c 0 := fun j hj => absurd hj (Nat.not_lt_zero _)
theorem NoR.step {c : CO} {i : Nat} (h : NoR c i) (hk : rbV c i = false) : NoR c (i + 1) := fun j hj => by
  rcases Nat.lt_succ_iff_lt_or_eq.1 hj with h1 | h1
  · exact h j h1
  · subst h1
    exact hk
def NoC (bs ns : List SH) (i : Nat) : Prop := ∀ q, q < i → NoR (coA bs ns q) 6
theorem NoC.zero (bs ns : List SH) : NoC bs ns 0 := fun j hj => absurd hj (Nat.not_lt_zero _)
theorem NoC.step {bs ns : List SH} {i : Nat} (h : NoC bs ns i) (hk : NoR (coA bs ns i) 6) : NoC bs ns (i + 1) := fun j hj => by
  rcases Nat.lt_succ_iff_lt_or_eq.1 hj with h1 | h1
  · exact h j h1
  · subst h1
    exact hk
/-- What Broken answers. -/
def BrP (bs ns : List SH) (o r : Int) : Prop := (o = 0 ∧ r = 0 ∧ NoC bs ns bs.length) ∨ ∃ i j : Nat, i < bs.length ∧ j < 6 ∧ o = (i : Int) + 1 ∧ r = (j : Int) + 1 ∧ rbV (coA bs ns i) j = true ∧ NoR (coA bs ns i) j ∧ NoC bs ns i
def BkPost (w : World) (bs ns : List SH) (e : Ending) (X : World) : Prop := ∃ o r : Int, e = .returned (.tuple #[.int .i64 o, .int .i64 r]) ∧ BrP bs ns o r ∧ Below w.heap.size w X
theorem co_same {bs ns : List SH} {i : Nat} {c : CO} (h1 : bs[i]? = some c.was) (h2 : (c.gone = true ∧ ns[i]? = none ∧ c.is = zeroS) ∨ (c.gone = false ∧ ns[i]? = some c.is)) (j : Nat) : rbV c j = rbV (coA bs ns i) j := by
  refine rbV_congr ?_ ?_ ?_ j
  · simp [coA, h1]
  · rcases h2 with ⟨a, b, d⟩ | ⟨a, b⟩
    · simp [coA, b, d]
    · simp [coA, b]
  · rcases h2 with ⟨a, b, d⟩ | ⟨a, b⟩
    · simp [coA, a, b]
    · simp [coA, a, b]
set_option maxHeartbeats 2000000 in
set_option maxRecDepth 100000 in
theorem broken_any (A B : Option Addr) (cap cap2 : Nat) (bs ns : List SH) (w : World) (hB : ReadsS w A bs) (hC : ReadsS w B ns) (hz : bs.length ≤ 100000) (hz2 : ns.length ≤ 100000) (hT : Lib.Utf8Tabs 1 2 w) : Calls Tryz.prog 7 #[.slice A bs.length cap, .slice B ns.length cap2] w (BkPost w bs ns) := by
  have LL := hide (Hq.nil w [])
  have HB := hide hB
  have HC := hide hC
  have HZ := hide hz
  have HZ2 := hide hz2
  have HT := hide hT
  clear hB hC hz hz2 hT
  go_enter Tryz.func7, Tryz.ntmps7
  go_wp2_with (first | go_skip | ((with_reducible show wpList _ _ _ _ _ _); first | ((refine rd (by rfl) (ex_lenG 22 34 Tryz.underlying22 rfl rfl) ?_); simp only [Act.put, List.setIfInBounds_toArray, List.set_cons_succ, List.set_cons_zero])))
  refine (rules_any _).mono ?_
  rintro e X0 ⟨BR, rfl, hBR, hq⟩
  replace LL := hide hq
  clear hq
  go_wp2_with (first | go_skip | ((with_reducible show wpList _ _ _ _ _ _); first | ((refine rd (by rfl) (ex_lenG 22 34 Tryz.underlying22 rfl rfl) ?_); simp only [Act.put, List.setIfInBounds_toArray, List.set_cons_succ, List.set_cons_zero])))
  go_loopg [14] bs.length (fun gm s14 wr => ∃ i : Nat, s14 = .int .i64 (i : Nat) ∧ i ≤ bs.length ∧ bs.length - i ≤ gm ∧ Hid (NoC bs ns i) ∧ Hid (Hq w wr [] [(BR, ruleCs)]))
  case atStart => exact ⟨0, rfl, by omega, by omega, hide (NoC.zero _ _), LL⟩
  case round =>
    clear LL
    obtain ⟨i, rfl, hil, hgm, HD, LL⟩ := hrel
    by_cases hlt : i < bs.length
    · have dlt : decide ((i : Int) < (bs.length : Int)) = true := decide_eq_true (by omega)
      have hw1 : IntKind.i64.wrap ((i : Int) + 1) = (i : Int) + 1 := by have := unhide HZ; rw [IntKind.wrap_i64]; omega
      have HLT := hide hlt
      have hCO := courseOf_any A B cap cap2 bs ns i w wr (unhide HB) (unhide HC) (unhide LL).fr hlt (unhide HZ) (unhide HZ2)
      have HCO := hide hCO
      clear hCO hlt hil
      go_wp2_with (first | go_skip | ((with_reducible show wpList _ _ _ _ _ _); first | ((refine rd (by rfl) (ex_lenG 22 34 Tryz.underlying22 rfl rfl) ?_); simp only [Act.put, List.setIfInBounds_toArray, List.set_cons_succ, List.set_cons_zero])))
      refine (unhide HCO).mono ?_
      rintro e X7 ⟨c, rfl, hc1, hc2, hc3, hc4, hc5, hc6, hc7, hc8, hb7⟩
      have HX := hide (And.intro hc2 (And.intro hc3 (And.intro hc4 hc5)))
      have HS := hide (co_same (bs := bs) (ns := ns) (i := i) hc1 hc8)
      replace LL := hide ((unhide LL).on hb7)
      rw [coagg]
      clear hc1 hc2 hc3 hc4 hc5 hc6 hc7 hc8 hb7 HCO
      go_wp2_with (first | go_skip | ((with_reducible show wpList _ _ _ _ _ _); first | ((refine alG 46 (zeroC.cs) (by rfl) rfl (fun w => by kernel_rfl) (Nat.succ_pos _) (unhide LL) ?_); intro X8 B8 hE8 L8 hb8; have hB8 := hide (Nat.le_trans (unhide LL).fr.size (Nat.le_of_eq hE8.symm)); replace LL := hide L8; clear L8 hb8 hE8; simp only [Act.put, List.setIfInBounds_toArray, List.set_cons_succ, List.set_cons_zero]) | ((refine st (vs := c.cs) 1 46 (by rfl) rfl rfl rfl rfl (cocs_one _) szC (unhide LL) rfl (by simp [cput, CO.cs, SH.cs, VV.cs, zeroC, zeroS, zeroV]) (Or.inr (unhide hB8)) ?_); intro X4 L4 hf4 hs4; replace LL := hide L4; clear L4 hf4 hs4; simp only [Act.put, List.setIfInBounds_toArray, List.set_cons_succ, List.set_cons_zero]) | ((refine rd (by rfl) (ex_lenG 43 50 Tryz.underlying43 rfl rfl) ?_); simp only [Act.put, List.setIfInBounds_toArray, List.set_cons_succ, List.set_cons_zero])))
      obtain ⟨w2, hw2⟩ : ∃ w2, w2 = wr := ⟨_, rfl⟩
      subst hw2
      go_loopg [23] 6 (fun gm s23 wr => ∃ j : Nat, s23 = .int .i64 (j : Nat) ∧ j ≤ 6 ∧ 6 - j ≤ gm ∧ Hid (NoR c j) ∧ Hid (Hq w wr [] [(BR, ruleCs), (B8, c.cs)]))
      case atStart => exact ⟨0, rfl, by omega, by omega, hide (NoR.zero _), LL⟩
      case round =>
        clear LL
        obtain ⟨j, rfl, hjl, hgm2, HE, LL⟩ := hrel
        by_cases hj6 : j < 6
        · have hj : j = 0 ∨ j = 1 ∨ j = 2 ∨ j = 3 ∨ j = 4 ∨ j = 5 := by omega
          clear hj6 hjl
          rcases hj with rfl | rfl | rfl | rfl | rfl | rfl
          · go_wp2_with (first | go_skip | ((with_reducible show wpList _ _ _ _ _ _); first | ((refine rd (by rfl) (ex_indexG 43 2 0 unRs idRs rfl rfl rfl (by decide)) ?_); simp only [Act.put, List.setIfInBounds_toArray, List.set_cons_succ, List.set_cons_zero]) | ((refine rd (by rfl) (ex_loadN (vs := [.int .i64 1, .func (.func 36) #[] #[]]) 50 2 rwR szR rfl rfl ((unhide LL).get 0 rfl) rfl rfl) ?_); simp only [Act.put, List.setIfInBounds_toArray, List.set_cons_succ, List.set_cons_zero]) | ((refine alG 50 ([.int .i64 0, .nilFunc]) (by rfl) rfl (fun w => by kernel_rfl) (Nat.succ_pos _) (unhide LL) ?_); intro X9 B9 hE9 L9 hb9; have hB9 := hide (Nat.le_trans (unhide LL).fr.size (Nat.le_of_eq hE9.symm)); replace LL := hide L9; clear L9 hb9 hE9; simp only [Act.put, List.setIfInBounds_toArray, List.set_cons_succ, List.set_cons_zero]) | ((refine st (vs := [.int .i64 1, .func (.func 36) #[] #[]]) 2 50 (by rfl) rfl rfl rfl rfl (by simp [Value.oneCell']) szR (unhide LL) rfl (by simp [cput]) (Or.inr (unhide hB9)) ?_); intro X5 L5 hf5 hs5; replace LL := hide L5; clear L5 hf5 hs5; simp only [Act.put, List.setIfInBounds_toArray, List.set_cons_succ, List.set_cons_zero]) | ((refine rd (by rfl) (ex_load1 48 Tryz.isAgg48 rfl rfl ((unhide LL).get 2 rfl) rfl) ?_); simp only [Act.put, List.setIfInBounds_toArray, List.set_cons_succ, List.set_cons_zero]) | ((refine rd (by rfl) (ex_loadN (vs := c.cs) 46 17 rwC szC rfl rfl ((unhide LL).get 1 rfl) rfl rfl) ?_); simp only [Act.put, List.setIfInBounds_toArray, List.set_cons_succ, List.set_cons_zero]) | ((refine rd (by rfl) (ex_lenG 43 50 Tryz.underlying43 rfl rfl) ?_); simp only [Act.put, List.setIfInBounds_toArray, List.set_cons_succ, List.set_cons_zero])))
            have HCC := fun X => lost_any c X
            simp only [coagg] at HCC
            refine (HCC _).mono ?_
            clear HCC
            rintro e X6 ⟨rfl, hb6⟩
            replace LL := hide ((unhide LL).on hb6)
            clear hb6
            cases hr : rbV c 0
            · have HE2 := hide ((unhide HE).step hr)
              have e2 : c.gone = false := hr
              rw [e2]
              clear hr e2 HE
              go_wp2_with (first | go_skip | ((with_reducible show wpList _ _ _ _ _ _); first | ((refine rd (by rfl) (ex_indexG 43 2 0 unRs idRs rfl rfl rfl (by decide)) ?_); simp only [Act.put, List.setIfInBounds_toArray, List.set_cons_succ, List.set_cons_zero]) | ((refine rd (by rfl) (ex_loadN (vs := [.int .i64 1, .func (.func 36) #[] #[]]) 50 2 rwR szR rfl rfl ((unhide LL).get 0 rfl) rfl rfl) ?_); simp only [Act.put, List.setIfInBounds_toArray, List.set_cons_succ, List.set_cons_zero]) | ((refine alG 50 ([.int .i64 0, .nilFunc]) (by rfl) rfl (fun w => by kernel_rfl) (Nat.succ_pos _) (unhide LL) ?_); intro X9 B9 hE9 L9 hb9; have hB9 := hide (Nat.le_trans (unhide LL).fr.size (Nat.le_of_eq hE9.symm)); replace LL := hide L9; clear L9 hb9 hE9; simp only [Act.put, List.setIfInBounds_toArray, List.set_cons_succ, List.set_cons_zero]) | ((refine st (vs := [.int .i64 1, .func (.func 36) #[] #[]]) 2 50 (by rfl) rfl rfl rfl rfl (by simp [Value.oneCell']) szR (unhide LL) rfl (by simp [cput]) (Or.inr (unhide hB9)) ?_); intro X5 L5 hf5 hs5; replace LL := hide L5; clear L5 hf5 hs5; simp only [Act.put, List.setIfInBounds_toArray, List.set_cons_succ, List.set_cons_zero]) | ((refine rd (by rfl) (ex_load1 48 Tryz.isAgg48 rfl rfl ((unhide LL).get 2 rfl) rfl) ?_); simp only [Act.put, List.setIfInBounds_toArray, List.set_cons_succ, List.set_cons_zero]) | ((refine rd (by rfl) (ex_loadN (vs := c.cs) 46 17 rwC szC rfl rfl ((unhide LL).get 1 rfl) rfl rfl) ?_); simp only [Act.put, List.setIfInBounds_toArray, List.set_cons_succ, List.set_cons_zero]) | ((refine rd (by rfl) (ex_lenG 43 50 Tryz.underlying43 rfl rfl) ?_); simp only [Act.put, List.setIfInBounds_toArray, List.set_cons_succ, List.set_cons_zero])))
              replace LL := hide (Hq.left (L := [(BR, ruleCs), (B8, c.cs)]) (unhide LL))
              go_roundg (6 - (0 + 1))
              case measure => omega
              case rel => exact ⟨0 + 1, by go_num, by omega, by omega, HE2, LL⟩
            · have HF : Hid (BrP bs ns ((i : Int) + 1) 1) := hide (.inr ⟨i, 0, unhide HLT, by decide, rfl, rfl, by rw [← unhide HS]; exact hr, fun q hq => by rw [← unhide HS]; exact (unhide HE) q hq, unhide HD⟩)
              have e2 : c.gone = true := hr
              rw [e2]
              clear hr e2 HE HD
              go_wp2_with (first | go_skip | ((with_reducible show wpList _ _ _ _ _ _); first | ((refine rd (by rfl) (ex_indexG 43 2 0 unRs idRs rfl rfl rfl (by decide)) ?_); simp only [Act.put, List.setIfInBounds_toArray, List.set_cons_succ, List.set_cons_zero]) | ((refine rd (by rfl) (ex_loadN (vs := [.int .i64 1, .func (.func 36) #[] #[]]) 50 2 rwR szR rfl rfl ((unhide LL).get 0 rfl) rfl rfl) ?_); simp only [Act.put, List.setIfInBounds_toArray, List.set_cons_succ, List.set_cons_zero]) | ((refine alG 50 ([.int .i64 0, .nilFunc]) (by rfl) rfl (fun w => by kernel_rfl) (Nat.succ_pos _) (unhide LL) ?_); intro X9 B9 hE9 L9 hb9; have hB9 := hide (Nat.le_trans (unhide LL).fr.size (Nat.le_of_eq hE9.symm)); replace LL := hide L9; clear L9 hb9 hE9; simp only [Act.put, List.setIfInBounds_toArray, List.set_cons_succ, List.set_cons_zero]) | ((refine st (vs := [.int .i64 1, .func (.func 36) #[] #[]]) 2 50 (by rfl) rfl rfl rfl rfl (by simp [Value.oneCell']) szR (unhide LL) rfl (by simp [cput]) (Or.inr (unhide hB9)) ?_); intro X5 L5 hf5 hs5; replace LL := hide L5; clear L5 hf5 hs5; simp only [Act.put, List.setIfInBounds_toArray, List.set_cons_succ, List.set_cons_zero]) | ((refine rd (by rfl) (ex_load1 48 Tryz.isAgg48 rfl rfl ((unhide LL).get 2 rfl) rfl) ?_); simp only [Act.put, List.setIfInBounds_toArray, List.set_cons_succ, List.set_cons_zero]) | ((refine rd (by rfl) (ex_loadN (vs := c.cs) 46 17 rwC szC rfl rfl ((unhide LL).get 1 rfl) rfl rfl) ?_); simp only [Act.put, List.setIfInBounds_toArray, List.set_cons_succ, List.set_cons_zero]) | ((refine rd (by rfl) (ex_lenG 43 50 Tryz.underlying43 rfl rfl) ?_); simp only [Act.put, List.setIfInBounds_toArray, List.set_cons_succ, List.set_cons_zero])))
              have hq0 : Hq w _ [] [(BR, ruleCs), (B8, c.cs), (B9, [.int .i64 1, .func (.func 36) #[] #[]])] := (unhide LL).drew
              refine wp_region_held_drew (P := Tryz.prog) (S := fun X => Hq w X [] [(BR, ruleCs), (B8, c.cs), (B9, [.int .i64 1, .func (.func 36) #[] #[]])]) (by kernel_rfl) hq0 (fun hS0 => ?_)
              refine gsem 0 (some 31) (.int .i64 (i : Nat)) rfl (by kernel_rfl) (by kernel_rfl) (by kernel_rfl) (fun _ _ _ h => h) (by kernel_rfl) (by kernel_rfl) (fun _ _ => by kernel_rfl) hq0 ?_
              simp only [Act.put, List.setIfInBounds_toArray, List.set_cons_succ, List.set_cons_zero]
              refine gsem 1 (some 32) (.int .i64 ((i : Int) + 1)) rfl (by kernel_rfl) (by kernel_rfl) (by kernel_rfl) (fun _ _ _ h => h) (by kernel_rfl) (by kernel_rfl) (fun X hX => ex_addI rfl rfl rfl hw1) hq0 ?_
              simp only [Act.put, List.setIfInBounds_toArray, List.set_cons_succ, List.set_cons_zero]
              refine gsem 2 (some 33) (.pointer (some ⟨B9, 0, none⟩)) rfl (by kernel_rfl) (by kernel_rfl) (by kernel_rfl) (fun _ _ _ h => h) (by kernel_rfl) (by kernel_rfl) (fun _ _ => by kernel_rfl) hq0 ?_
              simp only [Act.put, List.setIfInBounds_toArray, List.set_cons_succ, List.set_cons_zero]
              refine gsem 3 (some 34) (.int .i64 1) rfl (by kernel_rfl) (by kernel_rfl) (by kernel_rfl) (fun _ _ _ h => h) (by kernel_rfl) (by kernel_rfl) (fun X hX => ex_load1 3 Tryz.isAgg3 rfl rfl (hX.get 2 rfl) rfl) hq0 ?_
              simp only [Act.put, List.setIfInBounds_toArray, List.set_cons_succ, List.set_cons_zero]
              refine gsem 4 (some 4) (.int .i64 ((i : Int) + 1)) rfl (by kernel_rfl) (by kernel_rfl) (by kernel_rfl) (fun _ _ _ h => h) (by kernel_rfl) (by kernel_rfl) (fun _ _ => by kernel_rfl) hq0 ?_
              simp only [Act.put, List.setIfInBounds_toArray, List.set_cons_succ, List.set_cons_zero]
              refine gsem 5 (some 5) (.int .i64 1) rfl (by kernel_rfl) (by kernel_rfl) (by kernel_rfl) (fun _ _ _ h => h) (by kernel_rfl) (by kernel_rfl) (fun _ _ => by kernel_rfl) hq0 ?_
              simp only [Act.put, List.setIfInBounds_toArray, List.set_cons_succ, List.set_cons_zero]
              refine wpAnyH_done (by kernel_rfl) ?_ _
              try simp only [Act.put, List.setIfInBounds_toArray, List.set_cons_succ, List.set_cons_zero]
              replace LL := hide hq0
              clear hq0 hS0
              go_wp2_with (first | go_skip | ((with_reducible show wpList _ _ _ _ _ _); first | ((refine rd (by rfl) (ex_indexG 43 2 0 unRs idRs rfl rfl rfl (by decide)) ?_); simp only [Act.put, List.setIfInBounds_toArray, List.set_cons_succ, List.set_cons_zero]) | ((refine rd (by rfl) (ex_loadN (vs := [.int .i64 1, .func (.func 36) #[] #[]]) 50 2 rwR szR rfl rfl ((unhide LL).get 0 rfl) rfl rfl) ?_); simp only [Act.put, List.setIfInBounds_toArray, List.set_cons_succ, List.set_cons_zero]) | ((refine alG 50 ([.int .i64 0, .nilFunc]) (by rfl) rfl (fun w => by kernel_rfl) (Nat.succ_pos _) (unhide LL) ?_); intro X9 B9 hE9 L9 hb9; have hB9 := hide (Nat.le_trans (unhide LL).fr.size (Nat.le_of_eq hE9.symm)); replace LL := hide L9; clear L9 hb9 hE9; simp only [Act.put, List.setIfInBounds_toArray, List.set_cons_succ, List.set_cons_zero]) | ((refine st (vs := [.int .i64 1, .func (.func 36) #[] #[]]) 2 50 (by rfl) rfl rfl rfl rfl (by simp [Value.oneCell']) szR (unhide LL) rfl (by simp [cput]) (Or.inr (unhide hB9)) ?_); intro X5 L5 hf5 hs5; replace LL := hide L5; clear L5 hf5 hs5; simp only [Act.put, List.setIfInBounds_toArray, List.set_cons_succ, List.set_cons_zero]) | ((refine rd (by rfl) (ex_load1 48 Tryz.isAgg48 rfl rfl ((unhide LL).get 2 rfl) rfl) ?_); simp only [Act.put, List.setIfInBounds_toArray, List.set_cons_succ, List.set_cons_zero]) | ((refine rd (by rfl) (ex_loadN (vs := c.cs) 46 17 rwC szC rfl rfl ((unhide LL).get 1 rfl) rfl rfl) ?_); simp only [Act.put, List.setIfInBounds_toArray, List.set_cons_succ, List.set_cons_zero]) | ((refine rd (by rfl) (ex_lenG 43 50 Tryz.underlying43 rfl rfl) ?_); simp only [Act.put, List.setIfInBounds_toArray, List.set_cons_succ, List.set_cons_zero])))
              go_ret2
              exact ⟨(i : Int) + 1, 1, rfl, unhide HF, (unhide LL).fr.below⟩
          · go_wp2_with (first | go_skip | ((with_reducible show wpList _ _ _ _ _ _); first | ((refine rd (by rfl) (ex_indexG 43 2 1 unRs idRs rfl rfl rfl (by decide)) ?_); simp only [Act.put, List.setIfInBounds_toArray, List.set_cons_succ, List.set_cons_zero]) | ((refine rd (by rfl) (ex_loadN (vs := [.int .i64 2, .func (.func 37) #[] #[]]) 50 2 rwR szR rfl rfl ((unhide LL).get 0 rfl) rfl rfl) ?_); simp only [Act.put, List.setIfInBounds_toArray, List.set_cons_succ, List.set_cons_zero]) | ((refine alG 50 ([.int .i64 0, .nilFunc]) (by rfl) rfl (fun w => by kernel_rfl) (Nat.succ_pos _) (unhide LL) ?_); intro X9 B9 hE9 L9 hb9; have hB9 := hide (Nat.le_trans (unhide LL).fr.size (Nat.le_of_eq hE9.symm)); replace LL := hide L9; clear L9 hb9 hE9; simp only [Act.put, List.setIfInBounds_toArray, List.set_cons_succ, List.set_cons_zero]) | ((refine st (vs := [.int .i64 2, .func (.func 37) #[] #[]]) 2 50 (by rfl) rfl rfl rfl rfl (by simp [Value.oneCell']) szR (unhide LL) rfl (by simp [cput]) (Or.inr (unhide hB9)) ?_); intro X5 L5 hf5 hs5; replace LL := hide L5; clear L5 hf5 hs5; simp only [Act.put, List.setIfInBounds_toArray, List.set_cons_succ, List.set_cons_zero]) | ((refine rd (by rfl) (ex_load1 48 Tryz.isAgg48 rfl rfl ((unhide LL).get 2 rfl) rfl) ?_); simp only [Act.put, List.setIfInBounds_toArray, List.set_cons_succ, List.set_cons_zero]) | ((refine rd (by rfl) (ex_loadN (vs := c.cs) 46 17 rwC szC rfl rfl ((unhide LL).get 1 rfl) rfl rfl) ?_); simp only [Act.put, List.setIfInBounds_toArray, List.set_cons_succ, List.set_cons_zero]) | ((refine rd (by rfl) (ex_lenG 43 50 Tryz.underlying43 rfl rfl) ?_); simp only [Act.put, List.setIfInBounds_toArray, List.set_cons_succ, List.set_cons_zero])))
            have HCC := fun X => otherClass_any c X
            simp only [coagg] at HCC
            refine (HCC _).mono ?_
            clear HCC
            rintro e X6 ⟨rfl, hb6⟩
            replace LL := hide ((unhide LL).on hb6)
            clear hb6
            cases hr : rbV c 1
            · have HE2 := hide ((unhide HE).step hr)
              have e2 : clV c = false := hr
              rw [e2]
              clear hr e2 HE
              go_wp2_with (first | go_skip | ((with_reducible show wpList _ _ _ _ _ _); first | ((refine rd (by rfl) (ex_indexG 43 2 1 unRs idRs rfl rfl rfl (by decide)) ?_); simp only [Act.put, List.setIfInBounds_toArray, List.set_cons_succ, List.set_cons_zero]) | ((refine rd (by rfl) (ex_loadN (vs := [.int .i64 2, .func (.func 37) #[] #[]]) 50 2 rwR szR rfl rfl ((unhide LL).get 0 rfl) rfl rfl) ?_); simp only [Act.put, List.setIfInBounds_toArray, List.set_cons_succ, List.set_cons_zero]) | ((refine alG 50 ([.int .i64 0, .nilFunc]) (by rfl) rfl (fun w => by kernel_rfl) (Nat.succ_pos _) (unhide LL) ?_); intro X9 B9 hE9 L9 hb9; have hB9 := hide (Nat.le_trans (unhide LL).fr.size (Nat.le_of_eq hE9.symm)); replace LL := hide L9; clear L9 hb9 hE9; simp only [Act.put, List.setIfInBounds_toArray, List.set_cons_succ, List.set_cons_zero]) | ((refine st (vs := [.int .i64 2, .func (.func 37) #[] #[]]) 2 50 (by rfl) rfl rfl rfl rfl (by simp [Value.oneCell']) szR (unhide LL) rfl (by simp [cput]) (Or.inr (unhide hB9)) ?_); intro X5 L5 hf5 hs5; replace LL := hide L5; clear L5 hf5 hs5; simp only [Act.put, List.setIfInBounds_toArray, List.set_cons_succ, List.set_cons_zero]) | ((refine rd (by rfl) (ex_load1 48 Tryz.isAgg48 rfl rfl ((unhide LL).get 2 rfl) rfl) ?_); simp only [Act.put, List.setIfInBounds_toArray, List.set_cons_succ, List.set_cons_zero]) | ((refine rd (by rfl) (ex_loadN (vs := c.cs) 46 17 rwC szC rfl rfl ((unhide LL).get 1 rfl) rfl rfl) ?_); simp only [Act.put, List.setIfInBounds_toArray, List.set_cons_succ, List.set_cons_zero]) | ((refine rd (by rfl) (ex_lenG 43 50 Tryz.underlying43 rfl rfl) ?_); simp only [Act.put, List.setIfInBounds_toArray, List.set_cons_succ, List.set_cons_zero])))
              replace LL := hide (Hq.left (L := [(BR, ruleCs), (B8, c.cs)]) (unhide LL))
              go_roundg (6 - (1 + 1))
              case measure => omega
              case rel => exact ⟨1 + 1, by go_num, by omega, by omega, HE2, LL⟩
            · have HF : Hid (BrP bs ns ((i : Int) + 1) 2) := hide (.inr ⟨i, 1, unhide HLT, by decide, rfl, rfl, by rw [← unhide HS]; exact hr, fun q hq => by rw [← unhide HS]; exact (unhide HE) q hq, unhide HD⟩)
              have e2 : clV c = true := hr
              rw [e2]
              clear hr e2 HE HD
              go_wp2_with (first | go_skip | ((with_reducible show wpList _ _ _ _ _ _); first | ((refine rd (by rfl) (ex_indexG 43 2 1 unRs idRs rfl rfl rfl (by decide)) ?_); simp only [Act.put, List.setIfInBounds_toArray, List.set_cons_succ, List.set_cons_zero]) | ((refine rd (by rfl) (ex_loadN (vs := [.int .i64 2, .func (.func 37) #[] #[]]) 50 2 rwR szR rfl rfl ((unhide LL).get 0 rfl) rfl rfl) ?_); simp only [Act.put, List.setIfInBounds_toArray, List.set_cons_succ, List.set_cons_zero]) | ((refine alG 50 ([.int .i64 0, .nilFunc]) (by rfl) rfl (fun w => by kernel_rfl) (Nat.succ_pos _) (unhide LL) ?_); intro X9 B9 hE9 L9 hb9; have hB9 := hide (Nat.le_trans (unhide LL).fr.size (Nat.le_of_eq hE9.symm)); replace LL := hide L9; clear L9 hb9 hE9; simp only [Act.put, List.setIfInBounds_toArray, List.set_cons_succ, List.set_cons_zero]) | ((refine st (vs := [.int .i64 2, .func (.func 37) #[] #[]]) 2 50 (by rfl) rfl rfl rfl rfl (by simp [Value.oneCell']) szR (unhide LL) rfl (by simp [cput]) (Or.inr (unhide hB9)) ?_); intro X5 L5 hf5 hs5; replace LL := hide L5; clear L5 hf5 hs5; simp only [Act.put, List.setIfInBounds_toArray, List.set_cons_succ, List.set_cons_zero]) | ((refine rd (by rfl) (ex_load1 48 Tryz.isAgg48 rfl rfl ((unhide LL).get 2 rfl) rfl) ?_); simp only [Act.put, List.setIfInBounds_toArray, List.set_cons_succ, List.set_cons_zero]) | ((refine rd (by rfl) (ex_loadN (vs := c.cs) 46 17 rwC szC rfl rfl ((unhide LL).get 1 rfl) rfl rfl) ?_); simp only [Act.put, List.setIfInBounds_toArray, List.set_cons_succ, List.set_cons_zero]) | ((refine rd (by rfl) (ex_lenG 43 50 Tryz.underlying43 rfl rfl) ?_); simp only [Act.put, List.setIfInBounds_toArray, List.set_cons_succ, List.set_cons_zero])))
              have hq0 : Hq w _ [] [(BR, ruleCs), (B8, c.cs), (B9, [.int .i64 2, .func (.func 37) #[] #[]])] := (unhide LL).drew
              refine wp_region_held_drew (P := Tryz.prog) (S := fun X => Hq w X [] [(BR, ruleCs), (B8, c.cs), (B9, [.int .i64 2, .func (.func 37) #[] #[]])]) (by kernel_rfl) hq0 (fun hS0 => ?_)
              refine gsem 0 (some 31) (.int .i64 (i : Nat)) rfl (by kernel_rfl) (by kernel_rfl) (by kernel_rfl) (fun _ _ _ h => h) (by kernel_rfl) (by kernel_rfl) (fun _ _ => by kernel_rfl) hq0 ?_
              simp only [Act.put, List.setIfInBounds_toArray, List.set_cons_succ, List.set_cons_zero]
              refine gsem 1 (some 32) (.int .i64 ((i : Int) + 1)) rfl (by kernel_rfl) (by kernel_rfl) (by kernel_rfl) (fun _ _ _ h => h) (by kernel_rfl) (by kernel_rfl) (fun X hX => ex_addI rfl rfl rfl hw1) hq0 ?_
              simp only [Act.put, List.setIfInBounds_toArray, List.set_cons_succ, List.set_cons_zero]
              refine gsem 2 (some 33) (.pointer (some ⟨B9, 0, none⟩)) rfl (by kernel_rfl) (by kernel_rfl) (by kernel_rfl) (fun _ _ _ h => h) (by kernel_rfl) (by kernel_rfl) (fun _ _ => by kernel_rfl) hq0 ?_
              simp only [Act.put, List.setIfInBounds_toArray, List.set_cons_succ, List.set_cons_zero]
              refine gsem 3 (some 34) (.int .i64 2) rfl (by kernel_rfl) (by kernel_rfl) (by kernel_rfl) (fun _ _ _ h => h) (by kernel_rfl) (by kernel_rfl) (fun X hX => ex_load1 3 Tryz.isAgg3 rfl rfl (hX.get 2 rfl) rfl) hq0 ?_
              simp only [Act.put, List.setIfInBounds_toArray, List.set_cons_succ, List.set_cons_zero]
              refine gsem 4 (some 4) (.int .i64 ((i : Int) + 1)) rfl (by kernel_rfl) (by kernel_rfl) (by kernel_rfl) (fun _ _ _ h => h) (by kernel_rfl) (by kernel_rfl) (fun _ _ => by kernel_rfl) hq0 ?_
              simp only [Act.put, List.setIfInBounds_toArray, List.set_cons_succ, List.set_cons_zero]
              refine gsem 5 (some 5) (.int .i64 2) rfl (by kernel_rfl) (by kernel_rfl) (by kernel_rfl) (fun _ _ _ h => h) (by kernel_rfl) (by kernel_rfl) (fun _ _ => by kernel_rfl) hq0 ?_
              simp only [Act.put, List.setIfInBounds_toArray, List.set_cons_succ, List.set_cons_zero]
              refine wpAnyH_done (by kernel_rfl) ?_ _
              try simp only [Act.put, List.setIfInBounds_toArray, List.set_cons_succ, List.set_cons_zero]
              replace LL := hide hq0
              clear hq0 hS0
              go_wp2_with (first | go_skip | ((with_reducible show wpList _ _ _ _ _ _); first | ((refine rd (by rfl) (ex_indexG 43 2 1 unRs idRs rfl rfl rfl (by decide)) ?_); simp only [Act.put, List.setIfInBounds_toArray, List.set_cons_succ, List.set_cons_zero]) | ((refine rd (by rfl) (ex_loadN (vs := [.int .i64 2, .func (.func 37) #[] #[]]) 50 2 rwR szR rfl rfl ((unhide LL).get 0 rfl) rfl rfl) ?_); simp only [Act.put, List.setIfInBounds_toArray, List.set_cons_succ, List.set_cons_zero]) | ((refine alG 50 ([.int .i64 0, .nilFunc]) (by rfl) rfl (fun w => by kernel_rfl) (Nat.succ_pos _) (unhide LL) ?_); intro X9 B9 hE9 L9 hb9; have hB9 := hide (Nat.le_trans (unhide LL).fr.size (Nat.le_of_eq hE9.symm)); replace LL := hide L9; clear L9 hb9 hE9; simp only [Act.put, List.setIfInBounds_toArray, List.set_cons_succ, List.set_cons_zero]) | ((refine st (vs := [.int .i64 2, .func (.func 37) #[] #[]]) 2 50 (by rfl) rfl rfl rfl rfl (by simp [Value.oneCell']) szR (unhide LL) rfl (by simp [cput]) (Or.inr (unhide hB9)) ?_); intro X5 L5 hf5 hs5; replace LL := hide L5; clear L5 hf5 hs5; simp only [Act.put, List.setIfInBounds_toArray, List.set_cons_succ, List.set_cons_zero]) | ((refine rd (by rfl) (ex_load1 48 Tryz.isAgg48 rfl rfl ((unhide LL).get 2 rfl) rfl) ?_); simp only [Act.put, List.setIfInBounds_toArray, List.set_cons_succ, List.set_cons_zero]) | ((refine rd (by rfl) (ex_loadN (vs := c.cs) 46 17 rwC szC rfl rfl ((unhide LL).get 1 rfl) rfl rfl) ?_); simp only [Act.put, List.setIfInBounds_toArray, List.set_cons_succ, List.set_cons_zero]) | ((refine rd (by rfl) (ex_lenG 43 50 Tryz.underlying43 rfl rfl) ?_); simp only [Act.put, List.setIfInBounds_toArray, List.set_cons_succ, List.set_cons_zero])))
              go_ret2
              exact ⟨(i : Int) + 1, 2, rfl, unhide HF, (unhide LL).fr.below⟩
          · go_wp2_with (first | go_skip | ((with_reducible show wpList _ _ _ _ _ _); first | ((refine rd (by rfl) (ex_indexG 43 2 2 unRs idRs rfl rfl rfl (by decide)) ?_); simp only [Act.put, List.setIfInBounds_toArray, List.set_cons_succ, List.set_cons_zero]) | ((refine rd (by rfl) (ex_loadN (vs := [.int .i64 3, .func (.func 38) #[] #[]]) 50 2 rwR szR rfl rfl ((unhide LL).get 0 rfl) rfl rfl) ?_); simp only [Act.put, List.setIfInBounds_toArray, List.set_cons_succ, List.set_cons_zero]) | ((refine alG 50 ([.int .i64 0, .nilFunc]) (by rfl) rfl (fun w => by kernel_rfl) (Nat.succ_pos _) (unhide LL) ?_); intro X9 B9 hE9 L9 hb9; have hB9 := hide (Nat.le_trans (unhide LL).fr.size (Nat.le_of_eq hE9.symm)); replace LL := hide L9; clear L9 hb9 hE9; simp only [Act.put, List.setIfInBounds_toArray, List.set_cons_succ, List.set_cons_zero]) | ((refine st (vs := [.int .i64 3, .func (.func 38) #[] #[]]) 2 50 (by rfl) rfl rfl rfl rfl (by simp [Value.oneCell']) szR (unhide LL) rfl (by simp [cput]) (Or.inr (unhide hB9)) ?_); intro X5 L5 hf5 hs5; replace LL := hide L5; clear L5 hf5 hs5; simp only [Act.put, List.setIfInBounds_toArray, List.set_cons_succ, List.set_cons_zero]) | ((refine rd (by rfl) (ex_load1 48 Tryz.isAgg48 rfl rfl ((unhide LL).get 2 rfl) rfl) ?_); simp only [Act.put, List.setIfInBounds_toArray, List.set_cons_succ, List.set_cons_zero]) | ((refine rd (by rfl) (ex_loadN (vs := c.cs) 46 17 rwC szC rfl rfl ((unhide LL).get 1 rfl) rfl rfl) ?_); simp only [Act.put, List.setIfInBounds_toArray, List.set_cons_succ, List.set_cons_zero]) | ((refine rd (by rfl) (ex_lenG 43 50 Tryz.underlying43 rfl rfl) ?_); simp only [Act.put, List.setIfInBounds_toArray, List.set_cons_succ, List.set_cons_zero])))
            have HCC := fun X => openAgain_any c X
            simp only [coagg] at HCC
            refine (HCC _).mono ?_
            clear HCC
            rintro e X6 ⟨rfl, hb6⟩
            replace LL := hide ((unhide LL).on hb6)
            clear hb6
            cases hr : rbV c 2
            · have HE2 := hide ((unhide HE).step hr)
              have e2 : oaV c = false := hr
              rw [e2]
              clear hr e2 HE
              go_wp2_with (first | go_skip | ((with_reducible show wpList _ _ _ _ _ _); first | ((refine rd (by rfl) (ex_indexG 43 2 2 unRs idRs rfl rfl rfl (by decide)) ?_); simp only [Act.put, List.setIfInBounds_toArray, List.set_cons_succ, List.set_cons_zero]) | ((refine rd (by rfl) (ex_loadN (vs := [.int .i64 3, .func (.func 38) #[] #[]]) 50 2 rwR szR rfl rfl ((unhide LL).get 0 rfl) rfl rfl) ?_); simp only [Act.put, List.setIfInBounds_toArray, List.set_cons_succ, List.set_cons_zero]) | ((refine alG 50 ([.int .i64 0, .nilFunc]) (by rfl) rfl (fun w => by kernel_rfl) (Nat.succ_pos _) (unhide LL) ?_); intro X9 B9 hE9 L9 hb9; have hB9 := hide (Nat.le_trans (unhide LL).fr.size (Nat.le_of_eq hE9.symm)); replace LL := hide L9; clear L9 hb9 hE9; simp only [Act.put, List.setIfInBounds_toArray, List.set_cons_succ, List.set_cons_zero]) | ((refine st (vs := [.int .i64 3, .func (.func 38) #[] #[]]) 2 50 (by rfl) rfl rfl rfl rfl (by simp [Value.oneCell']) szR (unhide LL) rfl (by simp [cput]) (Or.inr (unhide hB9)) ?_); intro X5 L5 hf5 hs5; replace LL := hide L5; clear L5 hf5 hs5; simp only [Act.put, List.setIfInBounds_toArray, List.set_cons_succ, List.set_cons_zero]) | ((refine rd (by rfl) (ex_load1 48 Tryz.isAgg48 rfl rfl ((unhide LL).get 2 rfl) rfl) ?_); simp only [Act.put, List.setIfInBounds_toArray, List.set_cons_succ, List.set_cons_zero]) | ((refine rd (by rfl) (ex_loadN (vs := c.cs) 46 17 rwC szC rfl rfl ((unhide LL).get 1 rfl) rfl rfl) ?_); simp only [Act.put, List.setIfInBounds_toArray, List.set_cons_succ, List.set_cons_zero]) | ((refine rd (by rfl) (ex_lenG 43 50 Tryz.underlying43 rfl rfl) ?_); simp only [Act.put, List.setIfInBounds_toArray, List.set_cons_succ, List.set_cons_zero])))
              replace LL := hide (Hq.left (L := [(BR, ruleCs), (B8, c.cs)]) (unhide LL))
              go_roundg (6 - (2 + 1))
              case measure => omega
              case rel => exact ⟨2 + 1, by go_num, by omega, by omega, HE2, LL⟩
            · have HF : Hid (BrP bs ns ((i : Int) + 1) 3) := hide (.inr ⟨i, 2, unhide HLT, by decide, rfl, rfl, by rw [← unhide HS]; exact hr, fun q hq => by rw [← unhide HS]; exact (unhide HE) q hq, unhide HD⟩)
              have e2 : oaV c = true := hr
              rw [e2]
              clear hr e2 HE HD
              go_wp2_with (first | go_skip | ((with_reducible show wpList _ _ _ _ _ _); first | ((refine rd (by rfl) (ex_indexG 43 2 2 unRs idRs rfl rfl rfl (by decide)) ?_); simp only [Act.put, List.setIfInBounds_toArray, List.set_cons_succ, List.set_cons_zero]) | ((refine rd (by rfl) (ex_loadN (vs := [.int .i64 3, .func (.func 38) #[] #[]]) 50 2 rwR szR rfl rfl ((unhide LL).get 0 rfl) rfl rfl) ?_); simp only [Act.put, List.setIfInBounds_toArray, List.set_cons_succ, List.set_cons_zero]) | ((refine alG 50 ([.int .i64 0, .nilFunc]) (by rfl) rfl (fun w => by kernel_rfl) (Nat.succ_pos _) (unhide LL) ?_); intro X9 B9 hE9 L9 hb9; have hB9 := hide (Nat.le_trans (unhide LL).fr.size (Nat.le_of_eq hE9.symm)); replace LL := hide L9; clear L9 hb9 hE9; simp only [Act.put, List.setIfInBounds_toArray, List.set_cons_succ, List.set_cons_zero]) | ((refine st (vs := [.int .i64 3, .func (.func 38) #[] #[]]) 2 50 (by rfl) rfl rfl rfl rfl (by simp [Value.oneCell']) szR (unhide LL) rfl (by simp [cput]) (Or.inr (unhide hB9)) ?_); intro X5 L5 hf5 hs5; replace LL := hide L5; clear L5 hf5 hs5; simp only [Act.put, List.setIfInBounds_toArray, List.set_cons_succ, List.set_cons_zero]) | ((refine rd (by rfl) (ex_load1 48 Tryz.isAgg48 rfl rfl ((unhide LL).get 2 rfl) rfl) ?_); simp only [Act.put, List.setIfInBounds_toArray, List.set_cons_succ, List.set_cons_zero]) | ((refine rd (by rfl) (ex_loadN (vs := c.cs) 46 17 rwC szC rfl rfl ((unhide LL).get 1 rfl) rfl rfl) ?_); simp only [Act.put, List.setIfInBounds_toArray, List.set_cons_succ, List.set_cons_zero]) | ((refine rd (by rfl) (ex_lenG 43 50 Tryz.underlying43 rfl rfl) ?_); simp only [Act.put, List.setIfInBounds_toArray, List.set_cons_succ, List.set_cons_zero])))
              have hq0 : Hq w _ [] [(BR, ruleCs), (B8, c.cs), (B9, [.int .i64 3, .func (.func 38) #[] #[]])] := (unhide LL).drew
              refine wp_region_held_drew (P := Tryz.prog) (S := fun X => Hq w X [] [(BR, ruleCs), (B8, c.cs), (B9, [.int .i64 3, .func (.func 38) #[] #[]])]) (by kernel_rfl) hq0 (fun hS0 => ?_)
              refine gsem 0 (some 31) (.int .i64 (i : Nat)) rfl (by kernel_rfl) (by kernel_rfl) (by kernel_rfl) (fun _ _ _ h => h) (by kernel_rfl) (by kernel_rfl) (fun _ _ => by kernel_rfl) hq0 ?_
              simp only [Act.put, List.setIfInBounds_toArray, List.set_cons_succ, List.set_cons_zero]
              refine gsem 1 (some 32) (.int .i64 ((i : Int) + 1)) rfl (by kernel_rfl) (by kernel_rfl) (by kernel_rfl) (fun _ _ _ h => h) (by kernel_rfl) (by kernel_rfl) (fun X hX => ex_addI rfl rfl rfl hw1) hq0 ?_
              simp only [Act.put, List.setIfInBounds_toArray, List.set_cons_succ, List.set_cons_zero]
              refine gsem 2 (some 33) (.pointer (some ⟨B9, 0, none⟩)) rfl (by kernel_rfl) (by kernel_rfl) (by kernel_rfl) (fun _ _ _ h => h) (by kernel_rfl) (by kernel_rfl) (fun _ _ => by kernel_rfl) hq0 ?_
              simp only [Act.put, List.setIfInBounds_toArray, List.set_cons_succ, List.set_cons_zero]
              refine gsem 3 (some 34) (.int .i64 3) rfl (by kernel_rfl) (by kernel_rfl) (by kernel_rfl) (fun _ _ _ h => h) (by kernel_rfl) (by kernel_rfl) (fun X hX => ex_load1 3 Tryz.isAgg3 rfl rfl (hX.get 2 rfl) rfl) hq0 ?_
              simp only [Act.put, List.setIfInBounds_toArray, List.set_cons_succ, List.set_cons_zero]
              refine gsem 4 (some 4) (.int .i64 ((i : Int) + 1)) rfl (by kernel_rfl) (by kernel_rfl) (by kernel_rfl) (fun _ _ _ h => h) (by kernel_rfl) (by kernel_rfl) (fun _ _ => by kernel_rfl) hq0 ?_
              simp only [Act.put, List.setIfInBounds_toArray, List.set_cons_succ, List.set_cons_zero]
              refine gsem 5 (some 5) (.int .i64 3) rfl (by kernel_rfl) (by kernel_rfl) (by kernel_rfl) (fun _ _ _ h => h) (by kernel_rfl) (by kernel_rfl) (fun _ _ => by kernel_rfl) hq0 ?_
              simp only [Act.put, List.setIfInBounds_toArray, List.set_cons_succ, List.set_cons_zero]
              refine wpAnyH_done (by kernel_rfl) ?_ _
              try simp only [Act.put, List.setIfInBounds_toArray, List.set_cons_succ, List.set_cons_zero]
              replace LL := hide hq0
              clear hq0 hS0
              go_wp2_with (first | go_skip | ((with_reducible show wpList _ _ _ _ _ _); first | ((refine rd (by rfl) (ex_indexG 43 2 2 unRs idRs rfl rfl rfl (by decide)) ?_); simp only [Act.put, List.setIfInBounds_toArray, List.set_cons_succ, List.set_cons_zero]) | ((refine rd (by rfl) (ex_loadN (vs := [.int .i64 3, .func (.func 38) #[] #[]]) 50 2 rwR szR rfl rfl ((unhide LL).get 0 rfl) rfl rfl) ?_); simp only [Act.put, List.setIfInBounds_toArray, List.set_cons_succ, List.set_cons_zero]) | ((refine alG 50 ([.int .i64 0, .nilFunc]) (by rfl) rfl (fun w => by kernel_rfl) (Nat.succ_pos _) (unhide LL) ?_); intro X9 B9 hE9 L9 hb9; have hB9 := hide (Nat.le_trans (unhide LL).fr.size (Nat.le_of_eq hE9.symm)); replace LL := hide L9; clear L9 hb9 hE9; simp only [Act.put, List.setIfInBounds_toArray, List.set_cons_succ, List.set_cons_zero]) | ((refine st (vs := [.int .i64 3, .func (.func 38) #[] #[]]) 2 50 (by rfl) rfl rfl rfl rfl (by simp [Value.oneCell']) szR (unhide LL) rfl (by simp [cput]) (Or.inr (unhide hB9)) ?_); intro X5 L5 hf5 hs5; replace LL := hide L5; clear L5 hf5 hs5; simp only [Act.put, List.setIfInBounds_toArray, List.set_cons_succ, List.set_cons_zero]) | ((refine rd (by rfl) (ex_load1 48 Tryz.isAgg48 rfl rfl ((unhide LL).get 2 rfl) rfl) ?_); simp only [Act.put, List.setIfInBounds_toArray, List.set_cons_succ, List.set_cons_zero]) | ((refine rd (by rfl) (ex_loadN (vs := c.cs) 46 17 rwC szC rfl rfl ((unhide LL).get 1 rfl) rfl rfl) ?_); simp only [Act.put, List.setIfInBounds_toArray, List.set_cons_succ, List.set_cons_zero]) | ((refine rd (by rfl) (ex_lenG 43 50 Tryz.underlying43 rfl rfl) ?_); simp only [Act.put, List.setIfInBounds_toArray, List.set_cons_succ, List.set_cons_zero])))
              go_ret2
              exact ⟨(i : Int) + 1, 3, rfl, unhide HF, (unhide LL).fr.below⟩
          · go_wp2_with (first | go_skip | ((with_reducible show wpList _ _ _ _ _ _); first | ((refine rd (by rfl) (ex_indexG 43 2 3 unRs idRs rfl rfl rfl (by decide)) ?_); simp only [Act.put, List.setIfInBounds_toArray, List.set_cons_succ, List.set_cons_zero]) | ((refine rd (by rfl) (ex_loadN (vs := [.int .i64 4, .func (.func 39) #[] #[]]) 50 2 rwR szR rfl rfl ((unhide LL).get 0 rfl) rfl rfl) ?_); simp only [Act.put, List.setIfInBounds_toArray, List.set_cons_succ, List.set_cons_zero]) | ((refine alG 50 ([.int .i64 0, .nilFunc]) (by rfl) rfl (fun w => by kernel_rfl) (Nat.succ_pos _) (unhide LL) ?_); intro X9 B9 hE9 L9 hb9; have hB9 := hide (Nat.le_trans (unhide LL).fr.size (Nat.le_of_eq hE9.symm)); replace LL := hide L9; clear L9 hb9 hE9; simp only [Act.put, List.setIfInBounds_toArray, List.set_cons_succ, List.set_cons_zero]) | ((refine st (vs := [.int .i64 4, .func (.func 39) #[] #[]]) 2 50 (by rfl) rfl rfl rfl rfl (by simp [Value.oneCell']) szR (unhide LL) rfl (by simp [cput]) (Or.inr (unhide hB9)) ?_); intro X5 L5 hf5 hs5; replace LL := hide L5; clear L5 hf5 hs5; simp only [Act.put, List.setIfInBounds_toArray, List.set_cons_succ, List.set_cons_zero]) | ((refine rd (by rfl) (ex_load1 48 Tryz.isAgg48 rfl rfl ((unhide LL).get 2 rfl) rfl) ?_); simp only [Act.put, List.setIfInBounds_toArray, List.set_cons_succ, List.set_cons_zero]) | ((refine rd (by rfl) (ex_loadN (vs := c.cs) 46 17 rwC szC rfl rfl ((unhide LL).get 1 rfl) rfl rfl) ?_); simp only [Act.put, List.setIfInBounds_toArray, List.set_cons_succ, List.set_cons_zero]) | ((refine rd (by rfl) (ex_lenG 43 50 Tryz.underlying43 rfl rfl) ?_); simp only [Act.put, List.setIfInBounds_toArray, List.set_cons_succ, List.set_cons_zero])))
            have HCC := fun X hT => otherProto_any c X hT
            simp only [coagg] at HCC
            refine (HCC _ (tabs_below (unhide HT) (unhide LL).fr.below)).mono ?_
            clear HCC
            rintro e X6 ⟨rfl, hb6⟩
            replace LL := hide ((unhide LL).on hb6)
            clear hb6
            cases hr : rbV c 3
            · have HE2 := hide ((unhide HE).step hr)
              have e2 : opV c = false := hr
              rw [e2]
              clear hr e2 HE
              go_wp2_with (first | go_skip | ((with_reducible show wpList _ _ _ _ _ _); first | ((refine rd (by rfl) (ex_indexG 43 2 3 unRs idRs rfl rfl rfl (by decide)) ?_); simp only [Act.put, List.setIfInBounds_toArray, List.set_cons_succ, List.set_cons_zero]) | ((refine rd (by rfl) (ex_loadN (vs := [.int .i64 4, .func (.func 39) #[] #[]]) 50 2 rwR szR rfl rfl ((unhide LL).get 0 rfl) rfl rfl) ?_); simp only [Act.put, List.setIfInBounds_toArray, List.set_cons_succ, List.set_cons_zero]) | ((refine alG 50 ([.int .i64 0, .nilFunc]) (by rfl) rfl (fun w => by kernel_rfl) (Nat.succ_pos _) (unhide LL) ?_); intro X9 B9 hE9 L9 hb9; have hB9 := hide (Nat.le_trans (unhide LL).fr.size (Nat.le_of_eq hE9.symm)); replace LL := hide L9; clear L9 hb9 hE9; simp only [Act.put, List.setIfInBounds_toArray, List.set_cons_succ, List.set_cons_zero]) | ((refine st (vs := [.int .i64 4, .func (.func 39) #[] #[]]) 2 50 (by rfl) rfl rfl rfl rfl (by simp [Value.oneCell']) szR (unhide LL) rfl (by simp [cput]) (Or.inr (unhide hB9)) ?_); intro X5 L5 hf5 hs5; replace LL := hide L5; clear L5 hf5 hs5; simp only [Act.put, List.setIfInBounds_toArray, List.set_cons_succ, List.set_cons_zero]) | ((refine rd (by rfl) (ex_load1 48 Tryz.isAgg48 rfl rfl ((unhide LL).get 2 rfl) rfl) ?_); simp only [Act.put, List.setIfInBounds_toArray, List.set_cons_succ, List.set_cons_zero]) | ((refine rd (by rfl) (ex_loadN (vs := c.cs) 46 17 rwC szC rfl rfl ((unhide LL).get 1 rfl) rfl rfl) ?_); simp only [Act.put, List.setIfInBounds_toArray, List.set_cons_succ, List.set_cons_zero]) | ((refine rd (by rfl) (ex_lenG 43 50 Tryz.underlying43 rfl rfl) ?_); simp only [Act.put, List.setIfInBounds_toArray, List.set_cons_succ, List.set_cons_zero])))
              replace LL := hide (Hq.left (L := [(BR, ruleCs), (B8, c.cs)]) (unhide LL))
              go_roundg (6 - (3 + 1))
              case measure => omega
              case rel => exact ⟨3 + 1, by go_num, by omega, by omega, HE2, LL⟩
            · have HF : Hid (BrP bs ns ((i : Int) + 1) 4) := hide (.inr ⟨i, 3, unhide HLT, by decide, rfl, rfl, by rw [← unhide HS]; exact hr, fun q hq => by rw [← unhide HS]; exact (unhide HE) q hq, unhide HD⟩)
              have e2 : opV c = true := hr
              rw [e2]
              clear hr e2 HE HD
              go_wp2_with (first | go_skip | ((with_reducible show wpList _ _ _ _ _ _); first | ((refine rd (by rfl) (ex_indexG 43 2 3 unRs idRs rfl rfl rfl (by decide)) ?_); simp only [Act.put, List.setIfInBounds_toArray, List.set_cons_succ, List.set_cons_zero]) | ((refine rd (by rfl) (ex_loadN (vs := [.int .i64 4, .func (.func 39) #[] #[]]) 50 2 rwR szR rfl rfl ((unhide LL).get 0 rfl) rfl rfl) ?_); simp only [Act.put, List.setIfInBounds_toArray, List.set_cons_succ, List.set_cons_zero]) | ((refine alG 50 ([.int .i64 0, .nilFunc]) (by rfl) rfl (fun w => by kernel_rfl) (Nat.succ_pos _) (unhide LL) ?_); intro X9 B9 hE9 L9 hb9; have hB9 := hide (Nat.le_trans (unhide LL).fr.size (Nat.le_of_eq hE9.symm)); replace LL := hide L9; clear L9 hb9 hE9; simp only [Act.put, List.setIfInBounds_toArray, List.set_cons_succ, List.set_cons_zero]) | ((refine st (vs := [.int .i64 4, .func (.func 39) #[] #[]]) 2 50 (by rfl) rfl rfl rfl rfl (by simp [Value.oneCell']) szR (unhide LL) rfl (by simp [cput]) (Or.inr (unhide hB9)) ?_); intro X5 L5 hf5 hs5; replace LL := hide L5; clear L5 hf5 hs5; simp only [Act.put, List.setIfInBounds_toArray, List.set_cons_succ, List.set_cons_zero]) | ((refine rd (by rfl) (ex_load1 48 Tryz.isAgg48 rfl rfl ((unhide LL).get 2 rfl) rfl) ?_); simp only [Act.put, List.setIfInBounds_toArray, List.set_cons_succ, List.set_cons_zero]) | ((refine rd (by rfl) (ex_loadN (vs := c.cs) 46 17 rwC szC rfl rfl ((unhide LL).get 1 rfl) rfl rfl) ?_); simp only [Act.put, List.setIfInBounds_toArray, List.set_cons_succ, List.set_cons_zero]) | ((refine rd (by rfl) (ex_lenG 43 50 Tryz.underlying43 rfl rfl) ?_); simp only [Act.put, List.setIfInBounds_toArray, List.set_cons_succ, List.set_cons_zero])))
              have hq0 : Hq w _ [] [(BR, ruleCs), (B8, c.cs), (B9, [.int .i64 4, .func (.func 39) #[] #[]])] := (unhide LL).drew
              refine wp_region_held_drew (P := Tryz.prog) (S := fun X => Hq w X [] [(BR, ruleCs), (B8, c.cs), (B9, [.int .i64 4, .func (.func 39) #[] #[]])]) (by kernel_rfl) hq0 (fun hS0 => ?_)
              refine gsem 0 (some 31) (.int .i64 (i : Nat)) rfl (by kernel_rfl) (by kernel_rfl) (by kernel_rfl) (fun _ _ _ h => h) (by kernel_rfl) (by kernel_rfl) (fun _ _ => by kernel_rfl) hq0 ?_
              simp only [Act.put, List.setIfInBounds_toArray, List.set_cons_succ, List.set_cons_zero]
              refine gsem 1 (some 32) (.int .i64 ((i : Int) + 1)) rfl (by kernel_rfl) (by kernel_rfl) (by kernel_rfl) (fun _ _ _ h => h) (by kernel_rfl) (by kernel_rfl) (fun X hX => ex_addI rfl rfl rfl hw1) hq0 ?_
              simp only [Act.put, List.setIfInBounds_toArray, List.set_cons_succ, List.set_cons_zero]
              refine gsem 2 (some 33) (.pointer (some ⟨B9, 0, none⟩)) rfl (by kernel_rfl) (by kernel_rfl) (by kernel_rfl) (fun _ _ _ h => h) (by kernel_rfl) (by kernel_rfl) (fun _ _ => by kernel_rfl) hq0 ?_
              simp only [Act.put, List.setIfInBounds_toArray, List.set_cons_succ, List.set_cons_zero]
              refine gsem 3 (some 34) (.int .i64 4) rfl (by kernel_rfl) (by kernel_rfl) (by kernel_rfl) (fun _ _ _ h => h) (by kernel_rfl) (by kernel_rfl) (fun X hX => ex_load1 3 Tryz.isAgg3 rfl rfl (hX.get 2 rfl) rfl) hq0 ?_
              simp only [Act.put, List.setIfInBounds_toArray, List.set_cons_succ, List.set_cons_zero]
              refine gsem 4 (some 4) (.int .i64 ((i : Int) + 1)) rfl (by kernel_rfl) (by kernel_rfl) (by kernel_rfl) (fun _ _ _ h => h) (by kernel_rfl) (by kernel_rfl) (fun _ _ => by kernel_rfl) hq0 ?_
              simp only [Act.put, List.setIfInBounds_toArray, List.set_cons_succ, List.set_cons_zero]
              refine gsem 5 (some 5) (.int .i64 4) rfl (by kernel_rfl) (by kernel_rfl) (by kernel_rfl) (fun _ _ _ h => h) (by kernel_rfl) (by kernel_rfl) (fun _ _ => by kernel_rfl) hq0 ?_
              simp only [Act.put, List.setIfInBounds_toArray, List.set_cons_succ, List.set_cons_zero]
              refine wpAnyH_done (by kernel_rfl) ?_ _
              try simp only [Act.put, List.setIfInBounds_toArray, List.set_cons_succ, List.set_cons_zero]
              replace LL := hide hq0
              clear hq0 hS0
              go_wp2_with (first | go_skip | ((with_reducible show wpList _ _ _ _ _ _); first | ((refine rd (by rfl) (ex_indexG 43 2 3 unRs idRs rfl rfl rfl (by decide)) ?_); simp only [Act.put, List.setIfInBounds_toArray, List.set_cons_succ, List.set_cons_zero]) | ((refine rd (by rfl) (ex_loadN (vs := [.int .i64 4, .func (.func 39) #[] #[]]) 50 2 rwR szR rfl rfl ((unhide LL).get 0 rfl) rfl rfl) ?_); simp only [Act.put, List.setIfInBounds_toArray, List.set_cons_succ, List.set_cons_zero]) | ((refine alG 50 ([.int .i64 0, .nilFunc]) (by rfl) rfl (fun w => by kernel_rfl) (Nat.succ_pos _) (unhide LL) ?_); intro X9 B9 hE9 L9 hb9; have hB9 := hide (Nat.le_trans (unhide LL).fr.size (Nat.le_of_eq hE9.symm)); replace LL := hide L9; clear L9 hb9 hE9; simp only [Act.put, List.setIfInBounds_toArray, List.set_cons_succ, List.set_cons_zero]) | ((refine st (vs := [.int .i64 4, .func (.func 39) #[] #[]]) 2 50 (by rfl) rfl rfl rfl rfl (by simp [Value.oneCell']) szR (unhide LL) rfl (by simp [cput]) (Or.inr (unhide hB9)) ?_); intro X5 L5 hf5 hs5; replace LL := hide L5; clear L5 hf5 hs5; simp only [Act.put, List.setIfInBounds_toArray, List.set_cons_succ, List.set_cons_zero]) | ((refine rd (by rfl) (ex_load1 48 Tryz.isAgg48 rfl rfl ((unhide LL).get 2 rfl) rfl) ?_); simp only [Act.put, List.setIfInBounds_toArray, List.set_cons_succ, List.set_cons_zero]) | ((refine rd (by rfl) (ex_loadN (vs := c.cs) 46 17 rwC szC rfl rfl ((unhide LL).get 1 rfl) rfl rfl) ?_); simp only [Act.put, List.setIfInBounds_toArray, List.set_cons_succ, List.set_cons_zero]) | ((refine rd (by rfl) (ex_lenG 43 50 Tryz.underlying43 rfl rfl) ?_); simp only [Act.put, List.setIfInBounds_toArray, List.set_cons_succ, List.set_cons_zero])))
              go_ret2
              exact ⟨(i : Int) + 1, 4, rfl, unhide HF, (unhide LL).fr.below⟩
          · go_wp2_with (first | go_skip | ((with_reducible show wpList _ _ _ _ _ _); first | ((refine rd (by rfl) (ex_indexG 43 2 4 unRs idRs rfl rfl rfl (by decide)) ?_); simp only [Act.put, List.setIfInBounds_toArray, List.set_cons_succ, List.set_cons_zero]) | ((refine rd (by rfl) (ex_loadN (vs := [.int .i64 5, .func (.func 40) #[] #[]]) 50 2 rwR szR rfl rfl ((unhide LL).get 0 rfl) rfl rfl) ?_); simp only [Act.put, List.setIfInBounds_toArray, List.set_cons_succ, List.set_cons_zero]) | ((refine alG 50 ([.int .i64 0, .nilFunc]) (by rfl) rfl (fun w => by kernel_rfl) (Nat.succ_pos _) (unhide LL) ?_); intro X9 B9 hE9 L9 hb9; have hB9 := hide (Nat.le_trans (unhide LL).fr.size (Nat.le_of_eq hE9.symm)); replace LL := hide L9; clear L9 hb9 hE9; simp only [Act.put, List.setIfInBounds_toArray, List.set_cons_succ, List.set_cons_zero]) | ((refine st (vs := [.int .i64 5, .func (.func 40) #[] #[]]) 2 50 (by rfl) rfl rfl rfl rfl (by simp [Value.oneCell']) szR (unhide LL) rfl (by simp [cput]) (Or.inr (unhide hB9)) ?_); intro X5 L5 hf5 hs5; replace LL := hide L5; clear L5 hf5 hs5; simp only [Act.put, List.setIfInBounds_toArray, List.set_cons_succ, List.set_cons_zero]) | ((refine rd (by rfl) (ex_load1 48 Tryz.isAgg48 rfl rfl ((unhide LL).get 2 rfl) rfl) ?_); simp only [Act.put, List.setIfInBounds_toArray, List.set_cons_succ, List.set_cons_zero]) | ((refine rd (by rfl) (ex_loadN (vs := c.cs) 46 17 rwC szC rfl rfl ((unhide LL).get 1 rfl) rfl rfl) ?_); simp only [Act.put, List.setIfInBounds_toArray, List.set_cons_succ, List.set_cons_zero]) | ((refine rd (by rfl) (ex_lenG 43 50 Tryz.underlying43 rfl rfl) ?_); simp only [Act.put, List.setIfInBounds_toArray, List.set_cons_succ, List.set_cons_zero])))
            have HCC := fun X h1 h2 => moreKeys_any c X h1 h2 (unhide HX).2.2.1 (unhide HX).2.2.2
            simp only [coagg] at HCC
            refine (HCC _ ((unhide HX).1.fr (unhide LL).fr) ((unhide HX).2.1.fr (unhide LL).fr)).mono ?_
            clear HCC
            rintro e X6 ⟨rfl, hb6⟩
            replace LL := hide ((unhide LL).on hb6)
            clear hb6
            cases hr : rbV c 4
            · have HE2 := hide ((unhide HE).step hr)
              have e2 : mkV c = false := hr
              rw [e2]
              clear hr e2 HE
              go_wp2_with (first | go_skip | ((with_reducible show wpList _ _ _ _ _ _); first | ((refine rd (by rfl) (ex_indexG 43 2 4 unRs idRs rfl rfl rfl (by decide)) ?_); simp only [Act.put, List.setIfInBounds_toArray, List.set_cons_succ, List.set_cons_zero]) | ((refine rd (by rfl) (ex_loadN (vs := [.int .i64 5, .func (.func 40) #[] #[]]) 50 2 rwR szR rfl rfl ((unhide LL).get 0 rfl) rfl rfl) ?_); simp only [Act.put, List.setIfInBounds_toArray, List.set_cons_succ, List.set_cons_zero]) | ((refine alG 50 ([.int .i64 0, .nilFunc]) (by rfl) rfl (fun w => by kernel_rfl) (Nat.succ_pos _) (unhide LL) ?_); intro X9 B9 hE9 L9 hb9; have hB9 := hide (Nat.le_trans (unhide LL).fr.size (Nat.le_of_eq hE9.symm)); replace LL := hide L9; clear L9 hb9 hE9; simp only [Act.put, List.setIfInBounds_toArray, List.set_cons_succ, List.set_cons_zero]) | ((refine st (vs := [.int .i64 5, .func (.func 40) #[] #[]]) 2 50 (by rfl) rfl rfl rfl rfl (by simp [Value.oneCell']) szR (unhide LL) rfl (by simp [cput]) (Or.inr (unhide hB9)) ?_); intro X5 L5 hf5 hs5; replace LL := hide L5; clear L5 hf5 hs5; simp only [Act.put, List.setIfInBounds_toArray, List.set_cons_succ, List.set_cons_zero]) | ((refine rd (by rfl) (ex_load1 48 Tryz.isAgg48 rfl rfl ((unhide LL).get 2 rfl) rfl) ?_); simp only [Act.put, List.setIfInBounds_toArray, List.set_cons_succ, List.set_cons_zero]) | ((refine rd (by rfl) (ex_loadN (vs := c.cs) 46 17 rwC szC rfl rfl ((unhide LL).get 1 rfl) rfl rfl) ?_); simp only [Act.put, List.setIfInBounds_toArray, List.set_cons_succ, List.set_cons_zero]) | ((refine rd (by rfl) (ex_lenG 43 50 Tryz.underlying43 rfl rfl) ?_); simp only [Act.put, List.setIfInBounds_toArray, List.set_cons_succ, List.set_cons_zero])))
              replace LL := hide (Hq.left (L := [(BR, ruleCs), (B8, c.cs)]) (unhide LL))
              go_roundg (6 - (4 + 1))
              case measure => omega
              case rel => exact ⟨4 + 1, by go_num, by omega, by omega, HE2, LL⟩
            · have HF : Hid (BrP bs ns ((i : Int) + 1) 5) := hide (.inr ⟨i, 4, unhide HLT, by decide, rfl, rfl, by rw [← unhide HS]; exact hr, fun q hq => by rw [← unhide HS]; exact (unhide HE) q hq, unhide HD⟩)
              have e2 : mkV c = true := hr
              rw [e2]
              clear hr e2 HE HD
              go_wp2_with (first | go_skip | ((with_reducible show wpList _ _ _ _ _ _); first | ((refine rd (by rfl) (ex_indexG 43 2 4 unRs idRs rfl rfl rfl (by decide)) ?_); simp only [Act.put, List.setIfInBounds_toArray, List.set_cons_succ, List.set_cons_zero]) | ((refine rd (by rfl) (ex_loadN (vs := [.int .i64 5, .func (.func 40) #[] #[]]) 50 2 rwR szR rfl rfl ((unhide LL).get 0 rfl) rfl rfl) ?_); simp only [Act.put, List.setIfInBounds_toArray, List.set_cons_succ, List.set_cons_zero]) | ((refine alG 50 ([.int .i64 0, .nilFunc]) (by rfl) rfl (fun w => by kernel_rfl) (Nat.succ_pos _) (unhide LL) ?_); intro X9 B9 hE9 L9 hb9; have hB9 := hide (Nat.le_trans (unhide LL).fr.size (Nat.le_of_eq hE9.symm)); replace LL := hide L9; clear L9 hb9 hE9; simp only [Act.put, List.setIfInBounds_toArray, List.set_cons_succ, List.set_cons_zero]) | ((refine st (vs := [.int .i64 5, .func (.func 40) #[] #[]]) 2 50 (by rfl) rfl rfl rfl rfl (by simp [Value.oneCell']) szR (unhide LL) rfl (by simp [cput]) (Or.inr (unhide hB9)) ?_); intro X5 L5 hf5 hs5; replace LL := hide L5; clear L5 hf5 hs5; simp only [Act.put, List.setIfInBounds_toArray, List.set_cons_succ, List.set_cons_zero]) | ((refine rd (by rfl) (ex_load1 48 Tryz.isAgg48 rfl rfl ((unhide LL).get 2 rfl) rfl) ?_); simp only [Act.put, List.setIfInBounds_toArray, List.set_cons_succ, List.set_cons_zero]) | ((refine rd (by rfl) (ex_loadN (vs := c.cs) 46 17 rwC szC rfl rfl ((unhide LL).get 1 rfl) rfl rfl) ?_); simp only [Act.put, List.setIfInBounds_toArray, List.set_cons_succ, List.set_cons_zero]) | ((refine rd (by rfl) (ex_lenG 43 50 Tryz.underlying43 rfl rfl) ?_); simp only [Act.put, List.setIfInBounds_toArray, List.set_cons_succ, List.set_cons_zero])))
              have hq0 : Hq w _ [] [(BR, ruleCs), (B8, c.cs), (B9, [.int .i64 5, .func (.func 40) #[] #[]])] := (unhide LL).drew
              refine wp_region_held_drew (P := Tryz.prog) (S := fun X => Hq w X [] [(BR, ruleCs), (B8, c.cs), (B9, [.int .i64 5, .func (.func 40) #[] #[]])]) (by kernel_rfl) hq0 (fun hS0 => ?_)
              refine gsem 0 (some 31) (.int .i64 (i : Nat)) rfl (by kernel_rfl) (by kernel_rfl) (by kernel_rfl) (fun _ _ _ h => h) (by kernel_rfl) (by kernel_rfl) (fun _ _ => by kernel_rfl) hq0 ?_
              simp only [Act.put, List.setIfInBounds_toArray, List.set_cons_succ, List.set_cons_zero]
              refine gsem 1 (some 32) (.int .i64 ((i : Int) + 1)) rfl (by kernel_rfl) (by kernel_rfl) (by kernel_rfl) (fun _ _ _ h => h) (by kernel_rfl) (by kernel_rfl) (fun X hX => ex_addI rfl rfl rfl hw1) hq0 ?_
              simp only [Act.put, List.setIfInBounds_toArray, List.set_cons_succ, List.set_cons_zero]
              refine gsem 2 (some 33) (.pointer (some ⟨B9, 0, none⟩)) rfl (by kernel_rfl) (by kernel_rfl) (by kernel_rfl) (fun _ _ _ h => h) (by kernel_rfl) (by kernel_rfl) (fun _ _ => by kernel_rfl) hq0 ?_
              simp only [Act.put, List.setIfInBounds_toArray, List.set_cons_succ, List.set_cons_zero]
              refine gsem 3 (some 34) (.int .i64 5) rfl (by kernel_rfl) (by kernel_rfl) (by kernel_rfl) (fun _ _ _ h => h) (by kernel_rfl) (by kernel_rfl) (fun X hX => ex_load1 3 Tryz.isAgg3 rfl rfl (hX.get 2 rfl) rfl) hq0 ?_
              simp only [Act.put, List.setIfInBounds_toArray, List.set_cons_succ, List.set_cons_zero]
              refine gsem 4 (some 4) (.int .i64 ((i : Int) + 1)) rfl (by kernel_rfl) (by kernel_rfl) (by kernel_rfl) (fun _ _ _ h => h) (by kernel_rfl) (by kernel_rfl) (fun _ _ => by kernel_rfl) hq0 ?_
              simp only [Act.put, List.setIfInBounds_toArray, List.set_cons_succ, List.set_cons_zero]
              refine gsem 5 (some 5) (.int .i64 5) rfl (by kernel_rfl) (by kernel_rfl) (by kernel_rfl) (fun _ _ _ h => h) (by kernel_rfl) (by kernel_rfl) (fun _ _ => by kernel_rfl) hq0 ?_
              simp only [Act.put, List.setIfInBounds_toArray, List.set_cons_succ, List.set_cons_zero]
              refine wpAnyH_done (by kernel_rfl) ?_ _
              try simp only [Act.put, List.setIfInBounds_toArray, List.set_cons_succ, List.set_cons_zero]
              replace LL := hide hq0
              clear hq0 hS0
              go_wp2_with (first | go_skip | ((with_reducible show wpList _ _ _ _ _ _); first | ((refine rd (by rfl) (ex_indexG 43 2 4 unRs idRs rfl rfl rfl (by decide)) ?_); simp only [Act.put, List.setIfInBounds_toArray, List.set_cons_succ, List.set_cons_zero]) | ((refine rd (by rfl) (ex_loadN (vs := [.int .i64 5, .func (.func 40) #[] #[]]) 50 2 rwR szR rfl rfl ((unhide LL).get 0 rfl) rfl rfl) ?_); simp only [Act.put, List.setIfInBounds_toArray, List.set_cons_succ, List.set_cons_zero]) | ((refine alG 50 ([.int .i64 0, .nilFunc]) (by rfl) rfl (fun w => by kernel_rfl) (Nat.succ_pos _) (unhide LL) ?_); intro X9 B9 hE9 L9 hb9; have hB9 := hide (Nat.le_trans (unhide LL).fr.size (Nat.le_of_eq hE9.symm)); replace LL := hide L9; clear L9 hb9 hE9; simp only [Act.put, List.setIfInBounds_toArray, List.set_cons_succ, List.set_cons_zero]) | ((refine st (vs := [.int .i64 5, .func (.func 40) #[] #[]]) 2 50 (by rfl) rfl rfl rfl rfl (by simp [Value.oneCell']) szR (unhide LL) rfl (by simp [cput]) (Or.inr (unhide hB9)) ?_); intro X5 L5 hf5 hs5; replace LL := hide L5; clear L5 hf5 hs5; simp only [Act.put, List.setIfInBounds_toArray, List.set_cons_succ, List.set_cons_zero]) | ((refine rd (by rfl) (ex_load1 48 Tryz.isAgg48 rfl rfl ((unhide LL).get 2 rfl) rfl) ?_); simp only [Act.put, List.setIfInBounds_toArray, List.set_cons_succ, List.set_cons_zero]) | ((refine rd (by rfl) (ex_loadN (vs := c.cs) 46 17 rwC szC rfl rfl ((unhide LL).get 1 rfl) rfl rfl) ?_); simp only [Act.put, List.setIfInBounds_toArray, List.set_cons_succ, List.set_cons_zero]) | ((refine rd (by rfl) (ex_lenG 43 50 Tryz.underlying43 rfl rfl) ?_); simp only [Act.put, List.setIfInBounds_toArray, List.set_cons_succ, List.set_cons_zero])))
              go_ret2
              exact ⟨(i : Int) + 1, 5, rfl, unhide HF, (unhide LL).fr.below⟩
          · go_wp2_with (first | go_skip | ((with_reducible show wpList _ _ _ _ _ _); first | ((refine rd (by rfl) (ex_indexG 43 2 5 unRs idRs rfl rfl rfl (by decide)) ?_); simp only [Act.put, List.setIfInBounds_toArray, List.set_cons_succ, List.set_cons_zero]) | ((refine rd (by rfl) (ex_loadN (vs := [.int .i64 6, .func (.func 41) #[] #[]]) 50 2 rwR szR rfl rfl ((unhide LL).get 0 rfl) rfl rfl) ?_); simp only [Act.put, List.setIfInBounds_toArray, List.set_cons_succ, List.set_cons_zero]) | ((refine alG 50 ([.int .i64 0, .nilFunc]) (by rfl) rfl (fun w => by kernel_rfl) (Nat.succ_pos _) (unhide LL) ?_); intro X9 B9 hE9 L9 hb9; have hB9 := hide (Nat.le_trans (unhide LL).fr.size (Nat.le_of_eq hE9.symm)); replace LL := hide L9; clear L9 hb9 hE9; simp only [Act.put, List.setIfInBounds_toArray, List.set_cons_succ, List.set_cons_zero]) | ((refine st (vs := [.int .i64 6, .func (.func 41) #[] #[]]) 2 50 (by rfl) rfl rfl rfl rfl (by simp [Value.oneCell']) szR (unhide LL) rfl (by simp [cput]) (Or.inr (unhide hB9)) ?_); intro X5 L5 hf5 hs5; replace LL := hide L5; clear L5 hf5 hs5; simp only [Act.put, List.setIfInBounds_toArray, List.set_cons_succ, List.set_cons_zero]) | ((refine rd (by rfl) (ex_load1 48 Tryz.isAgg48 rfl rfl ((unhide LL).get 2 rfl) rfl) ?_); simp only [Act.put, List.setIfInBounds_toArray, List.set_cons_succ, List.set_cons_zero]) | ((refine rd (by rfl) (ex_loadN (vs := c.cs) 46 17 rwC szC rfl rfl ((unhide LL).get 1 rfl) rfl rfl) ?_); simp only [Act.put, List.setIfInBounds_toArray, List.set_cons_succ, List.set_cons_zero]) | ((refine rd (by rfl) (ex_lenG 43 50 Tryz.underlying43 rfl rfl) ?_); simp only [Act.put, List.setIfInBounds_toArray, List.set_cons_succ, List.set_cons_zero])))
            have HCC := fun X h1 h2 hT => otherProp_any c X h1 h2 (unhide HX).2.2.1 (unhide HX).2.2.2 hT
            simp only [coagg] at HCC
            refine (HCC _ ((unhide HX).1.fr (unhide LL).fr) ((unhide HX).2.1.fr (unhide LL).fr) (tabs_below (unhide HT) (unhide LL).fr.below)).mono ?_
            clear HCC
            rintro e X6 ⟨rfl, hb6⟩
            replace LL := hide ((unhide LL).on hb6)
            clear hb6
            cases hr : rbV c 5
            · have HE2 := hide ((unhide HE).step hr)
              have e2 : prV c = false := hr
              rw [e2]
              clear hr e2 HE
              go_wp2_with (first | go_skip | ((with_reducible show wpList _ _ _ _ _ _); first | ((refine rd (by rfl) (ex_indexG 43 2 5 unRs idRs rfl rfl rfl (by decide)) ?_); simp only [Act.put, List.setIfInBounds_toArray, List.set_cons_succ, List.set_cons_zero]) | ((refine rd (by rfl) (ex_loadN (vs := [.int .i64 6, .func (.func 41) #[] #[]]) 50 2 rwR szR rfl rfl ((unhide LL).get 0 rfl) rfl rfl) ?_); simp only [Act.put, List.setIfInBounds_toArray, List.set_cons_succ, List.set_cons_zero]) | ((refine alG 50 ([.int .i64 0, .nilFunc]) (by rfl) rfl (fun w => by kernel_rfl) (Nat.succ_pos _) (unhide LL) ?_); intro X9 B9 hE9 L9 hb9; have hB9 := hide (Nat.le_trans (unhide LL).fr.size (Nat.le_of_eq hE9.symm)); replace LL := hide L9; clear L9 hb9 hE9; simp only [Act.put, List.setIfInBounds_toArray, List.set_cons_succ, List.set_cons_zero]) | ((refine st (vs := [.int .i64 6, .func (.func 41) #[] #[]]) 2 50 (by rfl) rfl rfl rfl rfl (by simp [Value.oneCell']) szR (unhide LL) rfl (by simp [cput]) (Or.inr (unhide hB9)) ?_); intro X5 L5 hf5 hs5; replace LL := hide L5; clear L5 hf5 hs5; simp only [Act.put, List.setIfInBounds_toArray, List.set_cons_succ, List.set_cons_zero]) | ((refine rd (by rfl) (ex_load1 48 Tryz.isAgg48 rfl rfl ((unhide LL).get 2 rfl) rfl) ?_); simp only [Act.put, List.setIfInBounds_toArray, List.set_cons_succ, List.set_cons_zero]) | ((refine rd (by rfl) (ex_loadN (vs := c.cs) 46 17 rwC szC rfl rfl ((unhide LL).get 1 rfl) rfl rfl) ?_); simp only [Act.put, List.setIfInBounds_toArray, List.set_cons_succ, List.set_cons_zero]) | ((refine rd (by rfl) (ex_lenG 43 50 Tryz.underlying43 rfl rfl) ?_); simp only [Act.put, List.setIfInBounds_toArray, List.set_cons_succ, List.set_cons_zero])))
              replace LL := hide (Hq.left (L := [(BR, ruleCs), (B8, c.cs)]) (unhide LL))
              go_roundg (6 - (5 + 1))
              case measure => omega
              case rel => exact ⟨5 + 1, by go_num, by omega, by omega, HE2, LL⟩
            · have HF : Hid (BrP bs ns ((i : Int) + 1) 6) := hide (.inr ⟨i, 5, unhide HLT, by decide, rfl, rfl, by rw [← unhide HS]; exact hr, fun q hq => by rw [← unhide HS]; exact (unhide HE) q hq, unhide HD⟩)
              have e2 : prV c = true := hr
              rw [e2]
              clear hr e2 HE HD
              go_wp2_with (first | go_skip | ((with_reducible show wpList _ _ _ _ _ _); first | ((refine rd (by rfl) (ex_indexG 43 2 5 unRs idRs rfl rfl rfl (by decide)) ?_); simp only [Act.put, List.setIfInBounds_toArray, List.set_cons_succ, List.set_cons_zero]) | ((refine rd (by rfl) (ex_loadN (vs := [.int .i64 6, .func (.func 41) #[] #[]]) 50 2 rwR szR rfl rfl ((unhide LL).get 0 rfl) rfl rfl) ?_); simp only [Act.put, List.setIfInBounds_toArray, List.set_cons_succ, List.set_cons_zero]) | ((refine alG 50 ([.int .i64 0, .nilFunc]) (by rfl) rfl (fun w => by kernel_rfl) (Nat.succ_pos _) (unhide LL) ?_); intro X9 B9 hE9 L9 hb9; have hB9 := hide (Nat.le_trans (unhide LL).fr.size (Nat.le_of_eq hE9.symm)); replace LL := hide L9; clear L9 hb9 hE9; simp only [Act.put, List.setIfInBounds_toArray, List.set_cons_succ, List.set_cons_zero]) | ((refine st (vs := [.int .i64 6, .func (.func 41) #[] #[]]) 2 50 (by rfl) rfl rfl rfl rfl (by simp [Value.oneCell']) szR (unhide LL) rfl (by simp [cput]) (Or.inr (unhide hB9)) ?_); intro X5 L5 hf5 hs5; replace LL := hide L5; clear L5 hf5 hs5; simp only [Act.put, List.setIfInBounds_toArray, List.set_cons_succ, List.set_cons_zero]) | ((refine rd (by rfl) (ex_load1 48 Tryz.isAgg48 rfl rfl ((unhide LL).get 2 rfl) rfl) ?_); simp only [Act.put, List.setIfInBounds_toArray, List.set_cons_succ, List.set_cons_zero]) | ((refine rd (by rfl) (ex_loadN (vs := c.cs) 46 17 rwC szC rfl rfl ((unhide LL).get 1 rfl) rfl rfl) ?_); simp only [Act.put, List.setIfInBounds_toArray, List.set_cons_succ, List.set_cons_zero]) | ((refine rd (by rfl) (ex_lenG 43 50 Tryz.underlying43 rfl rfl) ?_); simp only [Act.put, List.setIfInBounds_toArray, List.set_cons_succ, List.set_cons_zero])))
              have hq0 : Hq w _ [] [(BR, ruleCs), (B8, c.cs), (B9, [.int .i64 6, .func (.func 41) #[] #[]])] := (unhide LL).drew
              refine wp_region_held_drew (P := Tryz.prog) (S := fun X => Hq w X [] [(BR, ruleCs), (B8, c.cs), (B9, [.int .i64 6, .func (.func 41) #[] #[]])]) (by kernel_rfl) hq0 (fun hS0 => ?_)
              refine gsem 0 (some 31) (.int .i64 (i : Nat)) rfl (by kernel_rfl) (by kernel_rfl) (by kernel_rfl) (fun _ _ _ h => h) (by kernel_rfl) (by kernel_rfl) (fun _ _ => by kernel_rfl) hq0 ?_
              simp only [Act.put, List.setIfInBounds_toArray, List.set_cons_succ, List.set_cons_zero]
              refine gsem 1 (some 32) (.int .i64 ((i : Int) + 1)) rfl (by kernel_rfl) (by kernel_rfl) (by kernel_rfl) (fun _ _ _ h => h) (by kernel_rfl) (by kernel_rfl) (fun X hX => ex_addI rfl rfl rfl hw1) hq0 ?_
              simp only [Act.put, List.setIfInBounds_toArray, List.set_cons_succ, List.set_cons_zero]
              refine gsem 2 (some 33) (.pointer (some ⟨B9, 0, none⟩)) rfl (by kernel_rfl) (by kernel_rfl) (by kernel_rfl) (fun _ _ _ h => h) (by kernel_rfl) (by kernel_rfl) (fun _ _ => by kernel_rfl) hq0 ?_
              simp only [Act.put, List.setIfInBounds_toArray, List.set_cons_succ, List.set_cons_zero]
              refine gsem 3 (some 34) (.int .i64 6) rfl (by kernel_rfl) (by kernel_rfl) (by kernel_rfl) (fun _ _ _ h => h) (by kernel_rfl) (by kernel_rfl) (fun X hX => ex_load1 3 Tryz.isAgg3 rfl rfl (hX.get 2 rfl) rfl) hq0 ?_
              simp only [Act.put, List.setIfInBounds_toArray, List.set_cons_succ, List.set_cons_zero]
              refine gsem 4 (some 4) (.int .i64 ((i : Int) + 1)) rfl (by kernel_rfl) (by kernel_rfl) (by kernel_rfl) (fun _ _ _ h => h) (by kernel_rfl) (by kernel_rfl) (fun _ _ => by kernel_rfl) hq0 ?_
              simp only [Act.put, List.setIfInBounds_toArray, List.set_cons_succ, List.set_cons_zero]
              refine gsem 5 (some 5) (.int .i64 6) rfl (by kernel_rfl) (by kernel_rfl) (by kernel_rfl) (fun _ _ _ h => h) (by kernel_rfl) (by kernel_rfl) (fun _ _ => by kernel_rfl) hq0 ?_
              simp only [Act.put, List.setIfInBounds_toArray, List.set_cons_succ, List.set_cons_zero]
              refine wpAnyH_done (by kernel_rfl) ?_ _
              try simp only [Act.put, List.setIfInBounds_toArray, List.set_cons_succ, List.set_cons_zero]
              replace LL := hide hq0
              clear hq0 hS0
              go_wp2_with (first | go_skip | ((with_reducible show wpList _ _ _ _ _ _); first | ((refine rd (by rfl) (ex_indexG 43 2 5 unRs idRs rfl rfl rfl (by decide)) ?_); simp only [Act.put, List.setIfInBounds_toArray, List.set_cons_succ, List.set_cons_zero]) | ((refine rd (by rfl) (ex_loadN (vs := [.int .i64 6, .func (.func 41) #[] #[]]) 50 2 rwR szR rfl rfl ((unhide LL).get 0 rfl) rfl rfl) ?_); simp only [Act.put, List.setIfInBounds_toArray, List.set_cons_succ, List.set_cons_zero]) | ((refine alG 50 ([.int .i64 0, .nilFunc]) (by rfl) rfl (fun w => by kernel_rfl) (Nat.succ_pos _) (unhide LL) ?_); intro X9 B9 hE9 L9 hb9; have hB9 := hide (Nat.le_trans (unhide LL).fr.size (Nat.le_of_eq hE9.symm)); replace LL := hide L9; clear L9 hb9 hE9; simp only [Act.put, List.setIfInBounds_toArray, List.set_cons_succ, List.set_cons_zero]) | ((refine st (vs := [.int .i64 6, .func (.func 41) #[] #[]]) 2 50 (by rfl) rfl rfl rfl rfl (by simp [Value.oneCell']) szR (unhide LL) rfl (by simp [cput]) (Or.inr (unhide hB9)) ?_); intro X5 L5 hf5 hs5; replace LL := hide L5; clear L5 hf5 hs5; simp only [Act.put, List.setIfInBounds_toArray, List.set_cons_succ, List.set_cons_zero]) | ((refine rd (by rfl) (ex_load1 48 Tryz.isAgg48 rfl rfl ((unhide LL).get 2 rfl) rfl) ?_); simp only [Act.put, List.setIfInBounds_toArray, List.set_cons_succ, List.set_cons_zero]) | ((refine rd (by rfl) (ex_loadN (vs := c.cs) 46 17 rwC szC rfl rfl ((unhide LL).get 1 rfl) rfl rfl) ?_); simp only [Act.put, List.setIfInBounds_toArray, List.set_cons_succ, List.set_cons_zero]) | ((refine rd (by rfl) (ex_lenG 43 50 Tryz.underlying43 rfl rfl) ?_); simp only [Act.put, List.setIfInBounds_toArray, List.set_cons_succ, List.set_cons_zero])))
              go_ret2
              exact ⟨(i : Int) + 1, 6, rfl, unhide HF, (unhide LL).fr.below⟩
        · obtain rfl : j = 6 := by omega
          have HD2 := hide ((unhide HD).step (fun q hq => by rw [← unhide HS]; exact (unhide HE) q hq))
          clear hj6 hjl HD HE
          go_wp2_with (first | go_skip | ((with_reducible show wpList _ _ _ _ _ _); first | ((refine rd (by rfl) (ex_lenG 43 50 Tryz.underlying43 rfl rfl) ?_); simp only [Act.put, List.setIfInBounds_toArray, List.set_cons_succ, List.set_cons_zero])))
          replace LL := hide (Hq.left (L := [(BR, ruleCs)]) (unhide LL))
          go_roundg (bs.length - (i + 1))
          case measure => have := unhide HLT; omega
          case rel => exact ⟨i + 1, by go_num, by have := unhide HLT; omega, by omega, HD2, LL⟩
    · obtain rfl : i = bs.length := by omega
      clear hlt hil
      go_wp2_with (first | go_skip | ((with_reducible show wpList _ _ _ _ _ _); first | ((refine rd (by rfl) (ex_lenG 22 34 Tryz.underlying22 rfl rfl) ?_); simp only [Act.put, List.setIfInBounds_toArray, List.set_cons_succ, List.set_cons_zero])))
      go_ret2
      exact ⟨0, 0, rfl, .inl ⟨rfl, rfl, unhide HD⟩, (unhide LL).fr.below⟩
end Go.Proofs.YtcflglloopgieaaGreatDoor

/-! Kb -/
namespace Go.Proofs.YtcflglloopgieaaGreatDoor
open Go Go.Proofs Go.Maps Go.RowKit FM
set_option linter.unusedSimpArgs false
set_option linter.unusedVariables false
set_option maxHeartbeats 1000000
theorem anyL_yes {l : List PR} {i : Nat} {p : PR} {f : PR → Bool} (hp : l[i]? = some p) (h : f p = true) : l.any f = true := List.any_eq_true.2 ⟨p, List.mem_of_getElem? hp, h⟩
theorem anyL_no {l : List PR} {f : PR → Bool} (h : ∀ j p, j < l.length → l[j]? = some p → f p = false) : l.any f = false := by
  rw [List.any_eq_false]
  intro p hp
  obtain ⟨j, hj⟩ := List.getElem?_of_mem hp
  simp [h j p (List.getElem?_eq_some_iff.1 hj).1 hj]
theorem anyL_step {l : List PR} {f : PR → Bool} {i : Nat} {p : PR} (h : ∀ j q, j < i → l[j]? = some q → f q = false) (hp : l[i]? = some p) (hf : f p = false) : ∀ j q, j < i + 1 → l[j]? = some q → f q = false := fun j q hj hq => by
  rcases Nat.lt_succ_iff_lt_or_eq.1 hj with h1 | rfl
  · exact h j q h1 hq
  · rw [hp] at hq
    obtain rfl := Option.some.inj hq
    exact hf
theorem rc19 {w : World} {b p : Nat} {r : PR} (h : w.rangeAt b p r.cs) : w.cell? ⟨b, p + 2 + 17, none⟩ = some (.int .i64 r.d.c) := h 19 _ rfl
theorem BrP.same {bs ns : List SH} {o r o2 r2 : Int} (h : BrP bs ns o r) (k : BrP bs ns o2 r2) : o2 = o ∧ r2 = r := by
  rcases h with ⟨rfl, rfl, hn⟩ | ⟨i, j, hi, hj, rfl, rfl, hb, hr, hc⟩
  · rcases k with ⟨rfl, rfl, _⟩ | ⟨i2, j2, hi2, hj2, _, _, hb2, _, _⟩
    · exact ⟨rfl, rfl⟩
    · rw [hn i2 hi2 j2 hj2] at hb2
      cases hb2
  · rcases k with ⟨_, _, hn⟩ | ⟨i2, j2, hi2, hj2, rfl, rfl, hb2, hr2, hc2⟩
    · rw [hn i hi j hj] at hb
      cases hb
    · rcases Nat.lt_trichotomy i i2 with h1 | rfl | h1
      · rw [hc2 i h1 j hj] at hb
        cases hb
      · rcases Nat.lt_trichotomy j j2 with h2 | rfl | h2
        · rw [hr2 j h2] at hb
          cases hb
        · exact ⟨rfl, rfl⟩
        · rw [hr j2 h2] at hb2
          cases hb2
      · rw [hc i2 h1 j2 hj2] at hb2
        cases hb2
set_option maxHeartbeats 4000000 in
set_option maxRecDepth 100000 in
theorem refSealed (s : SH) (SA : Option Addr) (sc : Nat) (w : World) (hW : ReadsP w SA s.ps) (hz : s.ps.length ≤ 733007751850) : Calls Tryz.prog 12 #[s.agg SA sc] w fun e w' => e = .returned (.bool (seV s)) ∧ Below w.heap.size w w' := by
  have LL := hide (Hq.nil w [])
  have HW := hide hW
  have HZ := hide hz
  have HS : Hid (seV s = (!s.x && !s.ps.any looseP)) := hide rfl
  generalize seV s = r at *
  unfold SH.agg
  have H6 : Hid ((s.cs SA sc)[6]? = some (.bool s.x)) := hide rfl
  generalize s.x = sx at *
  clear hW hz
  go_enter Tryz.func12, Tryz.ntmps12
  go_wp2_with (first | go_skip | ((with_reducible show wpList _ _ _ _ _ _); first | ((refine bx 34 (s.cs SA sc) (by rfl) rfl rfl rfl (Nat.succ_pos _) (show Hq w _ [] [] from unhide LL) ?_); intro X1 B1 hE1 L1 hb1; have hB1 := hide (Nat.le_of_eq hE1.symm); replace LL := hide L1; clear L1 hb1 hE1; simp only [Act.put, List.setIfInBounds_toArray, List.set_cons_succ, List.set_cons_zero]) | ((refine rd (by rfl) (ex_load1 32 Tryz.isAgg32 rfl rfl ((unhide LL).get 0 rfl) rfl) ?_); simp only [Act.put, List.setIfInBounds_toArray, List.set_cons_succ, List.set_cons_zero]) | ((refine rd (by rfl) (ex_lenG 32 61 Tryz.underlying32 rfl rfl) ?_); simp only [Act.put, List.setIfInBounds_toArray, List.set_cons_succ, List.set_cons_zero])))
  go_loopg [3] s.ps.length (fun gm s3 wr => ∃ i : Nat, s3 = .int .i64 (i : Nat) ∧ i ≤ s.ps.length ∧ s.ps.length - i ≤ gm ∧ Hid (∀ j q, j < i → s.ps[j]? = some q → looseP q = false) ∧ Hid (Hq w wr [] [(B1, s.cs SA sc)]))
  case atStart => exact ⟨0, rfl, by omega, by omega, hide (fun j q hj => absurd hj (Nat.not_lt_zero _)), LL⟩
  case round =>
    clear LL
    obtain ⟨i, rfl, hil, hgm, HAL, LL⟩ := hrel
    by_cases hlt : i < s.ps.length
    · have dlt : decide ((i : Int) < (s.ps.length : Int)) = true := decide_eq_true (by omega)
      have hw1 : IntKind.i64.wrap ((i : Int) + 1) = (i : Int) + 1 := by have := unhide HZ; rw [IntKind.wrap_i64]; omega
      obtain ⟨p, hp⟩ : ∃ p, s.ps[i]? = some p := ⟨_, List.getElem?_eq_getElem hlt⟩
      obtain ⟨_, b, off, hSA, hb, hrg⟩ := (unhide HW) i p hp
      have HLT := hide hlt
      clear hil
      have HSA := hide hSA
      have HRG : Hid (∀ X, Fr w X [] → X.rangeAt b (off + i * 20) p.cs) := hide (fun X hX => rangeAt_fr hrg hb hX)
      clear hb hrg hlt hSA
      cases hlo : (p.d.c != 1)
      · have HYE := hide (anyL_step (f := looseP) (unhide HAL) hp hlo)
        clear hp
        go_wp2_with (first | go_skip | ((with_reducible show wpList _ _ _ _ _ _); first | ((refine rd (by rfl) (ex_load1 32 Tryz.isAgg32 rfl rfl ((unhide LL).get 0 rfl) rfl) ?_); simp only [Act.put, List.setIfInBounds_toArray, List.set_cons_succ, List.set_cons_zero]) | ((refine rd (by rfl) (ex_lenG 32 61 Tryz.underlying32 rfl rfl) ?_); simp only [Act.put, List.setIfInBounds_toArray, List.set_cons_succ, List.set_cons_zero]) | ((refine rd (by rfl) (ex_indexA 32 20 i unPs idPs rfl rfl (unhide HSA) rfl (unhide HLT)) ?_); simp only [Act.put, List.setIfInBounds_toArray, List.set_cons_succ, List.set_cons_zero]) | ((refine rd (by rfl) (ex_loadC 57 Tryz.isAgg57 rfl rfl (rc19 (unhide HRG _ (unhide LL).fr))) ?_); simp only [Act.put, List.setIfInBounds_toArray, List.set_cons_succ, List.set_cons_zero]) | ((refine rd (by rfl) (ex_neT rfl rfl rfl hlo) ?_); simp only [Act.put, List.setIfInBounds_toArray, List.set_cons_succ, List.set_cons_zero])))
        go_roundg (s.ps.length - (i + 1))
        case measure => have := unhide HLT; omega
        case rel => exact ⟨i + 1, by go_num, by have := unhide HLT; omega, by omega, HYE, LL⟩
      · have HNO := hide (anyL_yes (f := looseP) hp hlo)
        clear hp
        go_wp2_with (first | go_skip | ((with_reducible show wpList _ _ _ _ _ _); first | ((refine rd (by rfl) (ex_load1 32 Tryz.isAgg32 rfl rfl ((unhide LL).get 0 rfl) rfl) ?_); simp only [Act.put, List.setIfInBounds_toArray, List.set_cons_succ, List.set_cons_zero]) | ((refine rd (by rfl) (ex_lenG 32 61 Tryz.underlying32 rfl rfl) ?_); simp only [Act.put, List.setIfInBounds_toArray, List.set_cons_succ, List.set_cons_zero]) | ((refine rd (by rfl) (ex_indexA 32 20 i unPs idPs rfl rfl (unhide HSA) rfl (unhide HLT)) ?_); simp only [Act.put, List.setIfInBounds_toArray, List.set_cons_succ, List.set_cons_zero]) | ((refine rd (by rfl) (ex_loadC 57 Tryz.isAgg57 rfl rfl (rc19 (unhide HRG _ (unhide LL).fr))) ?_); simp only [Act.put, List.setIfInBounds_toArray, List.set_cons_succ, List.set_cons_zero]) | ((refine rd (by rfl) (ex_neT rfl rfl rfl hlo) ?_); simp only [Act.put, List.setIfInBounds_toArray, List.set_cons_succ, List.set_cons_zero])))
        go_ret
        exact ⟨by rw [unhide HS, unhide HNO]; simp, (unhide LL).fr.below⟩
    · obtain rfl : i = s.ps.length := by omega
      clear hlt hil
      have HYS := hide (anyL_no (f := looseP) (unhide HAL))
      go_wp2_with (first | go_skip | ((with_reducible show wpList _ _ _ _ _ _); first | ((refine rd (by rfl) (ex_load1 32 Tryz.isAgg32 rfl rfl ((unhide LL).get 0 rfl) rfl) ?_); simp only [Act.put, List.setIfInBounds_toArray, List.set_cons_succ, List.set_cons_zero]) | ((refine rd (by rfl) (ex_lenG 32 61 Tryz.underlying32 rfl rfl) ?_); simp only [Act.put, List.setIfInBounds_toArray, List.set_cons_succ, List.set_cons_zero]) | ((refine rd (by rfl) (ex_load1 4 Tryz.isAgg4 rfl rfl ((unhide LL).get 0 rfl) (unhide H6)) ?_); simp only [Act.put, List.setIfInBounds_toArray, List.set_cons_succ, List.set_cons_zero])))
      go_ret
      exact ⟨by rw [unhide HS, unhide HYS]; simp, (unhide LL).fr.below⟩
set_option maxHeartbeats 4000000 in
set_option maxRecDepth 100000 in
theorem refFrozen (s : SH) (SA : Option Addr) (sc : Nat) (w : World) (hW : ReadsP w SA s.ps) (hz : s.ps.length ≤ 733007751850) : Calls Tryz.prog 14 #[s.agg SA sc] w fun e w' => e = .returned (.bool (frV s)) ∧ Below w.heap.size w w' := by
  have LL := hide (Hq.nil w [])
  have HW := hide hW
  have HZ := hide hz
  have HSE := hide (fun (X : World) (hX : Fr w X []) => refSealed s SA sc X (hW.fr hX) hz)
  have HS : Hid (frV s = (seV s && !s.ps.any chgP)) := hide rfl
  generalize frV s = r at *
  unfold SH.agg at *
  clear hW hz
  go_enter Tryz.func14, Tryz.ntmps14
  go_wp2_with (first | go_skip | ((with_reducible show wpList _ _ _ _ _ _); first | ((refine bx 34 (s.cs SA sc) (by rfl) rfl rfl rfl (Nat.succ_pos _) (show Hq w _ [] [] from unhide LL) ?_); intro X1 B1 hE1 L1 hb1; have hB1 := hide (Nat.le_of_eq hE1.symm); replace LL := hide L1; clear L1 hb1 hE1; simp only [Act.put, List.setIfInBounds_toArray, List.set_cons_succ, List.set_cons_zero]) | ((refine rd (by rfl) (ex_load1 32 Tryz.isAgg32 rfl rfl ((unhide LL).get 0 rfl) rfl) ?_); simp only [Act.put, List.setIfInBounds_toArray, List.set_cons_succ, List.set_cons_zero]) | ((refine rd (by rfl) (ex_lenG 32 61 Tryz.underlying32 rfl rfl) ?_); simp only [Act.put, List.setIfInBounds_toArray, List.set_cons_succ, List.set_cons_zero])))
  go_loopg [3] s.ps.length (fun gm s3 wr => ∃ i : Nat, s3 = .int .i64 (i : Nat) ∧ i ≤ s.ps.length ∧ s.ps.length - i ≤ gm ∧ Hid (∀ j q, j < i → s.ps[j]? = some q → chgP q = false) ∧ Hid (Hq w wr [] [(B1, s.cs SA sc)]))
  case atStart => exact ⟨0, rfl, by omega, by omega, hide (fun j q hj => absurd hj (Nat.not_lt_zero _)), LL⟩
  case round =>
    clear LL
    obtain ⟨i, rfl, hil, hgm, HAL, LL⟩ := hrel
    by_cases hlt : i < s.ps.length
    · have dlt : decide ((i : Int) < (s.ps.length : Int)) = true := decide_eq_true (by omega)
      have hw1 : IntKind.i64.wrap ((i : Int) + 1) = (i : Int) + 1 := by have := unhide HZ; rw [IntKind.wrap_i64]; omega
      obtain ⟨p, hp⟩ : ∃ p, s.ps[i]? = some p := ⟨_, List.getElem?_eq_getElem hlt⟩
      obtain ⟨_, b, off, hSA, hb, hrg⟩ := (unhide HW) i p hp
      have HLT := hide hlt
      clear hil
      have HPI := hide hp
      have HSA := hide hSA
      have HRG : Hid (∀ X, Fr w X [] → X.rangeAt b (off + i * 20) p.cs) := hide (fun X hX => rangeAt_fr hrg hb hX)
      clear hp hb hrg hlt hSA
      generalize hw : (p.d.w != 1) = ew at *
      go_wp2_with (first | go_skip | ((with_reducible show wpList _ _ _ _ _ _); first | ((refine rd (by rfl) (ex_load1 32 Tryz.isAgg32 rfl rfl ((unhide LL).get 0 rfl) rfl) ?_); simp only [Act.put, List.setIfInBounds_toArray, List.set_cons_succ, List.set_cons_zero]) | ((refine rd (by rfl) (ex_lenG 32 61 Tryz.underlying32 rfl rfl) ?_); simp only [Act.put, List.setIfInBounds_toArray, List.set_cons_succ, List.set_cons_zero]) | ((refine rd (by rfl) (ex_indexA 32 20 i unPs idPs rfl rfl (unhide HSA) rfl (unhide HLT)) ?_); simp only [Act.put, List.setIfInBounds_toArray, List.set_cons_succ, List.set_cons_zero]) | ((refine rd (by rfl) (ex_loadR (vs := p.d.cs) 59 18 rwD szD rfl rfl (range_right (a := p.k.cs) (c := p.d.cs) (unhide HRG _ (unhide LL).fr)) rfl) ?_); simp only [Act.put, List.setIfInBounds_toArray, List.set_cons_succ, List.set_cons_zero]) | ((refine alG 59 (zeroD.cs) (by rfl) rfl (fun w => by kernel_rfl) (Nat.succ_pos _) (show Hq w _ [] [(B1, s.cs SA sc)] from unhide LL) ?_); intro X2 B2 hE2 L2 hb2; have hB2 := hide (Nat.le_trans (unhide LL).fr.size (Nat.le_of_eq hE2.symm)); replace LL := hide L2; clear L2 hb2 hE2; simp only [Act.put, List.setIfInBounds_toArray, List.set_cons_succ, List.set_cons_zero]) | ((refine st (vs := p.d.cs) 1 59 (by rfl) rfl rfl rfl rfl (by simp [DD.cs, Value.oneCell']) (szD) (unhide LL) rfl (by simp [cput, PR.cs, SH.cs, VV.cs, KK.cs, DD.cs, CO.cs, DL.cs, zeroP, zeroS, zeroD, zeroV]) (Or.inr (unhide hB2)) ?_); intro X3 L3 hf3 hs3; replace LL := hide L3; clear L3 hf3 hs3; simp only [Act.put, List.setIfInBounds_toArray, List.set_cons_succ, List.set_cons_zero]) | ((refine rd (by rfl) (ex_loadN (vs := p.d.g.cs) 31 5 rwV szV rfl rfl ((unhide LL).get 1 rfl) rfl rfl) ?_); simp only [Act.put, List.setIfInBounds_toArray, List.set_cons_succ, List.set_cons_zero]) | ((refine rd (by rfl) (ex_loadN (vs := p.d.s.cs) 31 5 rwV szV rfl rfl ((unhide LL).get 1 rfl) rfl rfl) ?_); simp only [Act.put, List.setIfInBounds_toArray, List.set_cons_succ, List.set_cons_zero]) | ((refine rd (by rfl) (ex_load1 57 Tryz.isAgg57 rfl rfl ((unhide LL).get 1 rfl) rfl) ?_); simp only [Act.put, List.setIfInBounds_toArray, List.set_cons_succ, List.set_cons_zero]) | ((refine rd (by rfl) (ex_neT rfl rfl rfl hw) ?_); simp only [Act.put, List.setIfInBounds_toArray, List.set_cons_succ, List.set_cons_zero])))
      refine (refThere_any p.d.g _).mono ?_
      rintro e Z1 ⟨rfl, hZ1⟩
      replace LL := hide ((unhide LL).on hZ1)
      clear hZ1
      cases hg : (p.d.g.k != 0)
      · go_wp2_with (first | go_skip | ((with_reducible show wpList _ _ _ _ _ _); first | ((refine rd (by rfl) (ex_load1 32 Tryz.isAgg32 rfl rfl ((unhide LL).get 0 rfl) rfl) ?_); simp only [Act.put, List.setIfInBounds_toArray, List.set_cons_succ, List.set_cons_zero]) | ((refine rd (by rfl) (ex_lenG 32 61 Tryz.underlying32 rfl rfl) ?_); simp only [Act.put, List.setIfInBounds_toArray, List.set_cons_succ, List.set_cons_zero]) | ((refine rd (by rfl) (ex_indexA 32 20 i unPs idPs rfl rfl (unhide HSA) rfl (unhide HLT)) ?_); simp only [Act.put, List.setIfInBounds_toArray, List.set_cons_succ, List.set_cons_zero]) | ((refine rd (by rfl) (ex_loadR (vs := p.d.cs) 59 18 rwD szD rfl rfl (range_right (a := p.k.cs) (c := p.d.cs) (unhide HRG _ (unhide LL).fr)) rfl) ?_); simp only [Act.put, List.setIfInBounds_toArray, List.set_cons_succ, List.set_cons_zero]) | ((refine alG 59 (zeroD.cs) (by rfl) rfl (fun w => by kernel_rfl) (Nat.succ_pos _) (show Hq w _ [] [(B1, s.cs SA sc)] from unhide LL) ?_); intro X2 B2 hE2 L2 hb2; have hB2 := hide (Nat.le_trans (unhide LL).fr.size (Nat.le_of_eq hE2.symm)); replace LL := hide L2; clear L2 hb2 hE2; simp only [Act.put, List.setIfInBounds_toArray, List.set_cons_succ, List.set_cons_zero]) | ((refine st (vs := p.d.cs) 1 59 (by rfl) rfl rfl rfl rfl (by simp [DD.cs, Value.oneCell']) (szD) (unhide LL) rfl (by simp [cput, PR.cs, SH.cs, VV.cs, KK.cs, DD.cs, CO.cs, DL.cs, zeroP, zeroS, zeroD, zeroV]) (Or.inr (unhide hB2)) ?_); intro X3 L3 hf3 hs3; replace LL := hide L3; clear L3 hf3 hs3; simp only [Act.put, List.setIfInBounds_toArray, List.set_cons_succ, List.set_cons_zero]) | ((refine rd (by rfl) (ex_loadN (vs := p.d.g.cs) 31 5 rwV szV rfl rfl ((unhide LL).get 1 rfl) rfl rfl) ?_); simp only [Act.put, List.setIfInBounds_toArray, List.set_cons_succ, List.set_cons_zero]) | ((refine rd (by rfl) (ex_loadN (vs := p.d.s.cs) 31 5 rwV szV rfl rfl ((unhide LL).get 1 rfl) rfl rfl) ?_); simp only [Act.put, List.setIfInBounds_toArray, List.set_cons_succ, List.set_cons_zero]) | ((refine rd (by rfl) (ex_load1 57 Tryz.isAgg57 rfl rfl ((unhide LL).get 1 rfl) rfl) ?_); simp only [Act.put, List.setIfInBounds_toArray, List.set_cons_succ, List.set_cons_zero]) | ((refine rd (by rfl) (ex_neT rfl rfl rfl hw) ?_); simp only [Act.put, List.setIfInBounds_toArray, List.set_cons_succ, List.set_cons_zero])))
        refine (refThere_any p.d.s _).mono ?_
        rintro e Z2 ⟨rfl, hZ2⟩
        replace LL := hide ((unhide LL).on hZ2)
        clear hZ2
        cases hs : (p.d.s.k != 0)
        · cases ew
          · have HYE := hide (anyL_step (f := chgP) (unhide HAL) (unhide HPI) (by unfold chgP; simp at hw; simp [hw]))
            go_wp2_with (first | go_skip | ((with_reducible show wpList _ _ _ _ _ _); first | ((refine rd (by rfl) (ex_load1 32 Tryz.isAgg32 rfl rfl ((unhide LL).get 0 rfl) rfl) ?_); simp only [Act.put, List.setIfInBounds_toArray, List.set_cons_succ, List.set_cons_zero]) | ((refine rd (by rfl) (ex_lenG 32 61 Tryz.underlying32 rfl rfl) ?_); simp only [Act.put, List.setIfInBounds_toArray, List.set_cons_succ, List.set_cons_zero]) | ((refine rd (by rfl) (ex_indexA 32 20 i unPs idPs rfl rfl (unhide HSA) rfl (unhide HLT)) ?_); simp only [Act.put, List.setIfInBounds_toArray, List.set_cons_succ, List.set_cons_zero]) | ((refine rd (by rfl) (ex_loadR (vs := p.d.cs) 59 18 rwD szD rfl rfl (range_right (a := p.k.cs) (c := p.d.cs) (unhide HRG _ (unhide LL).fr)) rfl) ?_); simp only [Act.put, List.setIfInBounds_toArray, List.set_cons_succ, List.set_cons_zero]) | ((refine alG 59 (zeroD.cs) (by rfl) rfl (fun w => by kernel_rfl) (Nat.succ_pos _) (show Hq w _ [] [(B1, s.cs SA sc)] from unhide LL) ?_); intro X2 B2 hE2 L2 hb2; have hB2 := hide (Nat.le_trans (unhide LL).fr.size (Nat.le_of_eq hE2.symm)); replace LL := hide L2; clear L2 hb2 hE2; simp only [Act.put, List.setIfInBounds_toArray, List.set_cons_succ, List.set_cons_zero]) | ((refine st (vs := p.d.cs) 1 59 (by rfl) rfl rfl rfl rfl (by simp [DD.cs, Value.oneCell']) (szD) (unhide LL) rfl (by simp [cput, PR.cs, SH.cs, VV.cs, KK.cs, DD.cs, CO.cs, DL.cs, zeroP, zeroS, zeroD, zeroV]) (Or.inr (unhide hB2)) ?_); intro X3 L3 hf3 hs3; replace LL := hide L3; clear L3 hf3 hs3; simp only [Act.put, List.setIfInBounds_toArray, List.set_cons_succ, List.set_cons_zero]) | ((refine rd (by rfl) (ex_loadN (vs := p.d.g.cs) 31 5 rwV szV rfl rfl ((unhide LL).get 1 rfl) rfl rfl) ?_); simp only [Act.put, List.setIfInBounds_toArray, List.set_cons_succ, List.set_cons_zero]) | ((refine rd (by rfl) (ex_loadN (vs := p.d.s.cs) 31 5 rwV szV rfl rfl ((unhide LL).get 1 rfl) rfl rfl) ?_); simp only [Act.put, List.setIfInBounds_toArray, List.set_cons_succ, List.set_cons_zero]) | ((refine rd (by rfl) (ex_load1 57 Tryz.isAgg57 rfl rfl ((unhide LL).get 1 rfl) rfl) ?_); simp only [Act.put, List.setIfInBounds_toArray, List.set_cons_succ, List.set_cons_zero]) | ((refine rd (by rfl) (ex_neT rfl rfl rfl hw) ?_); simp only [Act.put, List.setIfInBounds_toArray, List.set_cons_succ, List.set_cons_zero])))
            replace LL := hide (Hq.left (L := [(B1, s.cs SA sc)]) (unhide LL))
            go_roundg (s.ps.length - (i + 1))
            case measure => have := unhide HLT; omega
            case rel => exact ⟨i + 1, by go_num, by have := unhide HLT; omega, by omega, HYE, LL⟩
          · have HNO := hide (anyL_yes (f := chgP) (unhide HPI) (by unfold chgP; simp at hg hs hw; simp [hg, hs, hw]))
            go_wp2_with (first | go_skip | ((with_reducible show wpList _ _ _ _ _ _); first | ((refine rd (by rfl) (ex_load1 32 Tryz.isAgg32 rfl rfl ((unhide LL).get 0 rfl) rfl) ?_); simp only [Act.put, List.setIfInBounds_toArray, List.set_cons_succ, List.set_cons_zero]) | ((refine rd (by rfl) (ex_lenG 32 61 Tryz.underlying32 rfl rfl) ?_); simp only [Act.put, List.setIfInBounds_toArray, List.set_cons_succ, List.set_cons_zero]) | ((refine rd (by rfl) (ex_indexA 32 20 i unPs idPs rfl rfl (unhide HSA) rfl (unhide HLT)) ?_); simp only [Act.put, List.setIfInBounds_toArray, List.set_cons_succ, List.set_cons_zero]) | ((refine rd (by rfl) (ex_loadR (vs := p.d.cs) 59 18 rwD szD rfl rfl (range_right (a := p.k.cs) (c := p.d.cs) (unhide HRG _ (unhide LL).fr)) rfl) ?_); simp only [Act.put, List.setIfInBounds_toArray, List.set_cons_succ, List.set_cons_zero]) | ((refine alG 59 (zeroD.cs) (by rfl) rfl (fun w => by kernel_rfl) (Nat.succ_pos _) (show Hq w _ [] [(B1, s.cs SA sc)] from unhide LL) ?_); intro X2 B2 hE2 L2 hb2; have hB2 := hide (Nat.le_trans (unhide LL).fr.size (Nat.le_of_eq hE2.symm)); replace LL := hide L2; clear L2 hb2 hE2; simp only [Act.put, List.setIfInBounds_toArray, List.set_cons_succ, List.set_cons_zero]) | ((refine st (vs := p.d.cs) 1 59 (by rfl) rfl rfl rfl rfl (by simp [DD.cs, Value.oneCell']) (szD) (unhide LL) rfl (by simp [cput, PR.cs, SH.cs, VV.cs, KK.cs, DD.cs, CO.cs, DL.cs, zeroP, zeroS, zeroD, zeroV]) (Or.inr (unhide hB2)) ?_); intro X3 L3 hf3 hs3; replace LL := hide L3; clear L3 hf3 hs3; simp only [Act.put, List.setIfInBounds_toArray, List.set_cons_succ, List.set_cons_zero]) | ((refine rd (by rfl) (ex_loadN (vs := p.d.g.cs) 31 5 rwV szV rfl rfl ((unhide LL).get 1 rfl) rfl rfl) ?_); simp only [Act.put, List.setIfInBounds_toArray, List.set_cons_succ, List.set_cons_zero]) | ((refine rd (by rfl) (ex_loadN (vs := p.d.s.cs) 31 5 rwV szV rfl rfl ((unhide LL).get 1 rfl) rfl rfl) ?_); simp only [Act.put, List.setIfInBounds_toArray, List.set_cons_succ, List.set_cons_zero]) | ((refine rd (by rfl) (ex_load1 57 Tryz.isAgg57 rfl rfl ((unhide LL).get 1 rfl) rfl) ?_); simp only [Act.put, List.setIfInBounds_toArray, List.set_cons_succ, List.set_cons_zero]) | ((refine rd (by rfl) (ex_neT rfl rfl rfl hw) ?_); simp only [Act.put, List.setIfInBounds_toArray, List.set_cons_succ, List.set_cons_zero])))
            go_ret
            exact ⟨by rw [unhide HS, unhide HNO]; simp, (unhide LL).fr.below⟩
        · have HYE := hide (anyL_step (f := chgP) (unhide HAL) (unhide HPI) (by unfold chgP; simp at hs; simp [hs]))
          go_wp2_with (first | go_skip | ((with_reducible show wpList _ _ _ _ _ _); first | ((refine rd (by rfl) (ex_load1 32 Tryz.isAgg32 rfl rfl ((unhide LL).get 0 rfl) rfl) ?_); simp only [Act.put, List.setIfInBounds_toArray, List.set_cons_succ, List.set_cons_zero]) | ((refine rd (by rfl) (ex_lenG 32 61 Tryz.underlying32 rfl rfl) ?_); simp only [Act.put, List.setIfInBounds_toArray, List.set_cons_succ, List.set_cons_zero]) | ((refine rd (by rfl) (ex_indexA 32 20 i unPs idPs rfl rfl (unhide HSA) rfl (unhide HLT)) ?_); simp only [Act.put, List.setIfInBounds_toArray, List.set_cons_succ, List.set_cons_zero]) | ((refine rd (by rfl) (ex_loadR (vs := p.d.cs) 59 18 rwD szD rfl rfl (range_right (a := p.k.cs) (c := p.d.cs) (unhide HRG _ (unhide LL).fr)) rfl) ?_); simp only [Act.put, List.setIfInBounds_toArray, List.set_cons_succ, List.set_cons_zero]) | ((refine alG 59 (zeroD.cs) (by rfl) rfl (fun w => by kernel_rfl) (Nat.succ_pos _) (show Hq w _ [] [(B1, s.cs SA sc)] from unhide LL) ?_); intro X2 B2 hE2 L2 hb2; have hB2 := hide (Nat.le_trans (unhide LL).fr.size (Nat.le_of_eq hE2.symm)); replace LL := hide L2; clear L2 hb2 hE2; simp only [Act.put, List.setIfInBounds_toArray, List.set_cons_succ, List.set_cons_zero]) | ((refine st (vs := p.d.cs) 1 59 (by rfl) rfl rfl rfl rfl (by simp [DD.cs, Value.oneCell']) (szD) (unhide LL) rfl (by simp [cput, PR.cs, SH.cs, VV.cs, KK.cs, DD.cs, CO.cs, DL.cs, zeroP, zeroS, zeroD, zeroV]) (Or.inr (unhide hB2)) ?_); intro X3 L3 hf3 hs3; replace LL := hide L3; clear L3 hf3 hs3; simp only [Act.put, List.setIfInBounds_toArray, List.set_cons_succ, List.set_cons_zero]) | ((refine rd (by rfl) (ex_loadN (vs := p.d.g.cs) 31 5 rwV szV rfl rfl ((unhide LL).get 1 rfl) rfl rfl) ?_); simp only [Act.put, List.setIfInBounds_toArray, List.set_cons_succ, List.set_cons_zero]) | ((refine rd (by rfl) (ex_loadN (vs := p.d.s.cs) 31 5 rwV szV rfl rfl ((unhide LL).get 1 rfl) rfl rfl) ?_); simp only [Act.put, List.setIfInBounds_toArray, List.set_cons_succ, List.set_cons_zero]) | ((refine rd (by rfl) (ex_load1 57 Tryz.isAgg57 rfl rfl ((unhide LL).get 1 rfl) rfl) ?_); simp only [Act.put, List.setIfInBounds_toArray, List.set_cons_succ, List.set_cons_zero]) | ((refine rd (by rfl) (ex_neT rfl rfl rfl hw) ?_); simp only [Act.put, List.setIfInBounds_toArray, List.set_cons_succ, List.set_cons_zero])))
          replace LL := hide (Hq.left (L := [(B1, s.cs SA sc)]) (unhide LL))
          go_roundg (s.ps.length - (i + 1))
          case measure => have := unhide HLT; omega
          case rel => exact ⟨i + 1, by go_num, by have := unhide HLT; omega, by omega, HYE, LL⟩
      · have HYE := hide (anyL_step (f := chgP) (unhide HAL) (unhide HPI) (by unfold chgP; simp at hg; simp [hg]))
        go_wp2_with (first | go_skip | ((with_reducible show wpList _ _ _ _ _ _); first | ((refine rd (by rfl) (ex_load1 32 Tryz.isAgg32 rfl rfl ((unhide LL).get 0 rfl) rfl) ?_); simp only [Act.put, List.setIfInBounds_toArray, List.set_cons_succ, List.set_cons_zero]) | ((refine rd (by rfl) (ex_lenG 32 61 Tryz.underlying32 rfl rfl) ?_); simp only [Act.put, List.setIfInBounds_toArray, List.set_cons_succ, List.set_cons_zero]) | ((refine rd (by rfl) (ex_indexA 32 20 i unPs idPs rfl rfl (unhide HSA) rfl (unhide HLT)) ?_); simp only [Act.put, List.setIfInBounds_toArray, List.set_cons_succ, List.set_cons_zero]) | ((refine rd (by rfl) (ex_loadR (vs := p.d.cs) 59 18 rwD szD rfl rfl (range_right (a := p.k.cs) (c := p.d.cs) (unhide HRG _ (unhide LL).fr)) rfl) ?_); simp only [Act.put, List.setIfInBounds_toArray, List.set_cons_succ, List.set_cons_zero]) | ((refine alG 59 (zeroD.cs) (by rfl) rfl (fun w => by kernel_rfl) (Nat.succ_pos _) (show Hq w _ [] [(B1, s.cs SA sc)] from unhide LL) ?_); intro X2 B2 hE2 L2 hb2; have hB2 := hide (Nat.le_trans (unhide LL).fr.size (Nat.le_of_eq hE2.symm)); replace LL := hide L2; clear L2 hb2 hE2; simp only [Act.put, List.setIfInBounds_toArray, List.set_cons_succ, List.set_cons_zero]) | ((refine st (vs := p.d.cs) 1 59 (by rfl) rfl rfl rfl rfl (by simp [DD.cs, Value.oneCell']) (szD) (unhide LL) rfl (by simp [cput, PR.cs, SH.cs, VV.cs, KK.cs, DD.cs, CO.cs, DL.cs, zeroP, zeroS, zeroD, zeroV]) (Or.inr (unhide hB2)) ?_); intro X3 L3 hf3 hs3; replace LL := hide L3; clear L3 hf3 hs3; simp only [Act.put, List.setIfInBounds_toArray, List.set_cons_succ, List.set_cons_zero]) | ((refine rd (by rfl) (ex_loadN (vs := p.d.g.cs) 31 5 rwV szV rfl rfl ((unhide LL).get 1 rfl) rfl rfl) ?_); simp only [Act.put, List.setIfInBounds_toArray, List.set_cons_succ, List.set_cons_zero]) | ((refine rd (by rfl) (ex_loadN (vs := p.d.s.cs) 31 5 rwV szV rfl rfl ((unhide LL).get 1 rfl) rfl rfl) ?_); simp only [Act.put, List.setIfInBounds_toArray, List.set_cons_succ, List.set_cons_zero]) | ((refine rd (by rfl) (ex_load1 57 Tryz.isAgg57 rfl rfl ((unhide LL).get 1 rfl) rfl) ?_); simp only [Act.put, List.setIfInBounds_toArray, List.set_cons_succ, List.set_cons_zero]) | ((refine rd (by rfl) (ex_neT rfl rfl rfl hw) ?_); simp only [Act.put, List.setIfInBounds_toArray, List.set_cons_succ, List.set_cons_zero])))
        replace LL := hide (Hq.left (L := [(B1, s.cs SA sc)]) (unhide LL))
        go_roundg (s.ps.length - (i + 1))
        case measure => have := unhide HLT; omega
        case rel => exact ⟨i + 1, by go_num, by have := unhide HLT; omega, by omega, HYE, LL⟩
    · obtain rfl : i = s.ps.length := by omega
      clear hlt hil
      have HYS := hide (anyL_no (f := chgP) (unhide HAL))
      go_wp2_with (first | go_skip | ((with_reducible show wpList _ _ _ _ _ _); first | ((refine rd (by rfl) (ex_load1 32 Tryz.isAgg32 rfl rfl ((unhide LL).get 0 rfl) rfl) ?_); simp only [Act.put, List.setIfInBounds_toArray, List.set_cons_succ, List.set_cons_zero]) | ((refine rd (by rfl) (ex_lenG 32 61 Tryz.underlying32 rfl rfl) ?_); simp only [Act.put, List.setIfInBounds_toArray, List.set_cons_succ, List.set_cons_zero]) | ((refine rd (by rfl) (ex_loadN (vs := s.cs SA sc) 34 8 rwS szS rfl rfl ((unhide LL).get 0 rfl) rfl rfl) ?_); simp only [Act.put, List.setIfInBounds_toArray, List.set_cons_succ, List.set_cons_zero])))
      refine (unhide HSE _ (unhide LL).fr).mono ?_
      rintro e Z9 ⟨rfl, hZ9⟩
      replace LL := hide ((unhide LL).on hZ9)
      clear hZ9
      go_wp2
      go_ret
      exact ⟨by rw [unhide HS, unhide HYS]; simp, (unhide LL).fr.below⟩
end Go.Proofs.YtcflglloopgieaaGreatDoor
