import Derived.Test.YtcflglloopgieaaKj
namespace Go.Proofs.Ytcflglloopgieaa
open Go Go.Proofs Go.Maps Go.RowKit FM
set_option linter.unusedSimpArgs false
set_option linter.unusedVariables false
set_option maxHeartbeats 1000000
theorem nz_getD (o : Option Nat) : nz o = ((o.getD 0 : Nat) : Int) := by cases o <;> rfl
section
variable {ops : Array Oper} {rest : List Oper} {Q : Exit → Act → World → Prop} {w w0 : World} {a : Act} {o : Oper} {E : List Nat} {L : List Ob}
theorem mmS {x : Operand} {n : Int} (hw : Region.wanted o (yielded ops a.tmps) = true) (ho : o.op = .makeMap 62 (some x)) (hx : a.eval x = .int .i64 n) (hL : Sy w0 w E L)
    (h : ∀ X B, B = w.heap.size → Sy w0 X E (L ++ [mapO B 0 0 (fun _ => none)]) → Below w.heap.size w X → wpList Try.prog ops Q rest (a.put o.dst (.map (some B))) X) : wpList Try.prog ops Q (o :: rest) a w :=
  mmI (w0 := w) (E := []) (L := []) hw ho hx (Hq.nil _ _) (fun X B hB _ hM hb => h X B hB (hL.add (mapO_ok _ _ _ _) hM hb (fun b hb2 => by rw [List.mem_singleton.1 hb2, hB]; exact Nat.le_refl _)) hb)
theorem made_rows (n : Nat) : (madeCells zeroW.agg.cells (n * 22)).toList = flatR (List.replicate n zeroW) := by
  apply List.ext_getElem?
  intro j
  have hl : (flatR (List.replicate n zeroW)).length = n * 22 := by rw [flatR_len]; simp
  by_cases hj : j < n * 22
  · have hq : j / 22 < (List.replicate n zeroW).length := by simp; omega
    have h1 := flat_get RW.cs 22 wcs_len (List.replicate n zeroW) (j / 22) (j % 22) hq (by omega)
    have e : j / 22 * 22 + j % 22 = j := by omega
    rw [e] at h1
    unfold flatR
    rw [h1]
    have hz : zeroW.agg.cells.size = 22 := by kernel_rfl
    have e2 : (List.replicate n zeroW)[j / 22] = zeroW := by simp
    rw [e2]
    unfold madeCells
    rw [hz]
    simp only [Array.toList_map, List.getElem?_map, Array.toList_range]
    rw [List.getElem?_range hj]
    simp only [Option.map_some]
    have e3 : zeroW.cs[j % 22]? = zeroW.agg.cells[j % 22]? := by
      have : zeroW.agg.cells = zeroW.cs.toArray := by kernel_rfl
      rw [this]
      simp
    rw [e3, getElem!_def]
    have hm : j % 22 < zeroW.agg.cells.size := by omega
    rw [Array.getElem?_eq_getElem hm]
  · rw [List.getElem?_eq_none (by rw [Array.length_toList, size_madeCells]; omega), List.getElem?_eq_none (by rw [hl]; omega)]
/-- make of n rows. -/
theorem mkR {c x : Operand} (base n : Nat) (hw : Region.wanted o (yielded ops a.tmps) = true) (ho : o.op = .makeSlice 61 c x) (hc : a.eval c = .int .i64 (n : Nat)) (hx : a.eval x = .int .i64 (n : Nat)) (hn : n ≤ 100000) (hL : Sy w0 w E L) (hb : base ≤ w.heap.size)
    (h : ∀ X B, B = w.heap.size → Sy w0 X E (L ++ [rowO base 74 22 (.slice (some ⟨B, 0, none⟩) n n) n (flatR (List.replicate n zeroW))]) → Below w.heap.size w X → wpList Try.prog ops Q rest (a.put o.dst (.slice (some ⟨B, 0, none⟩) n n)) X) : wpList Try.prog ops Q (o :: rest) a w := by
  obtain ⟨i0, hi, hz0, hz1, hz2⟩ := info_parts infW
  have hrun := run_make (P := Try.prog) w 61 74 i0 _ Try.underlying61 hi hz0 .i64 .i64 (n : Int) (n : Int) (by omega) (by omega) (by rw [hz2]; omega) (by omega)
  have hbl : Below w.heap.size w (w.alloc (Obj.cells (madeCells zeroW.agg.cells ((n : Int).toNat * i0.size)) 74)) := (Below.refl _ _).alloc (Nat.le_refl _) _
  have hO : (w.alloc (Obj.cells (madeCells zeroW.agg.cells ((n : Int).toNat * i0.size)) 74)).ownsRow base 74 22 (.slice (some ⟨w.heap.size, 0, none⟩) n n) n (flatR (List.replicate n zeroW)) := by
    refine ⟨by rw [flatR_len]; simp, .inr ⟨w.heap.size, n, _, rfl, hb, (MapKept.heap_alloc w _).1, Nat.le_refl _, by unfold maxLen; omega, by rw [size_madeCells, hz1]; simp, ?_⟩⟩
    rw [hz1, Int.toNat_natCast, ← made_rows, List.take_of_length_le (by rw [Array.length_toList, size_madeCells]; exact Nat.le_refl _)]
  refine BigFrame.wpList_want hw fun K hK => ?_
  have hP := hK _ _ (h _ _ rfl (hL.add (rowO_ok _ _ _ _ _ _) hO hbl (fun b hb2 => by
    have : b = w.heap.size := by simpa [rowO, Value.ownBlock, eq_comm] using hb2
    omega)) hbl)
  unfold Oper.wp execOp
  simp only [ho, hc, hx]
  simp [hrun]
  exact hP
theorem ex_neM {b : Nat} {x y : Operand} (ho : o.op = .binOp .neq 62 x y 62) (hx : a.eval x = .map (some b)) (hy : a.eval y = .map none) : (execOp a.eval o).run Try.prog w = .ok (.value (.bool true)) w := by
  have e : (binOp .neq 62 (.map (some b)) (.map none)).run Try.prog w = .ok (.bool true) w := by kernel_rfl
  unfold execOp
  simp only [ho, hx, hy]
  simp [go_sem, eqGuard, e]
theorem ex_neM0 {x y : Operand} (ho : o.op = .binOp .neq 62 x y 62) (hx : a.eval x = .map none) (hy : a.eval y = .map none) : (execOp a.eval o).run Try.prog w = .ok (.value (.bool false)) w := by
  have e : (binOp .neq 62 (.map none) (.map none)).run Try.prog w = .ok (.bool false) w := by kernel_rfl
  unfold execOp
  simp only [ho, hx, hy]
  simp [go_sem, eqGuard, e]
theorem ex_eqM {b : Nat} {x y : Operand} (ho : o.op = .binOp .eql 62 x y 62) (hx : a.eval x = .map (some b)) (hy : a.eval y = .map none) : (execOp a.eval o).run Try.prog w = .ok (.value (.bool false)) w := by
  have e : (binOp .eql 62 (.map (some b)) (.map none)).run Try.prog w = .ok (.bool false) w := by kernel_rfl
  unfold execOp
  simp only [ho, hx, hy]
  simp [go_sem, eqGuard, e]
theorem ex_eqM0 {x y : Operand} (ho : o.op = .binOp .eql 62 x y 62) (hx : a.eval x = .map none) (hy : a.eval y = .map none) : (execOp a.eval o).run Try.prog w = .ok (.value (.bool true)) w := by
  have e : (binOp .eql 62 (.map none) (.map none)).run Try.prog w = .ok (.bool true) w := by kernel_rfl
  unfold execOp
  simp only [ho, hx, hy]
  simp [go_sem, eqGuard, e]
theorem ex_addN {x y : Operand} (n : Nat) (ho : o.op = .binOp .add 3 x y 3) (hx : a.eval x = .int .i64 (n : Nat)) (hy : a.eval y = .int .i64 1) (hn : n ≤ 1000000000) : (execOp a.eval o).run Try.prog w = .ok (.value (.int .i64 ((n + 1 : Nat) : Int))) w := by
  have hw : IntKind.i64.wrap ((n : Int) + 1) = (n : Int) + 1 := by rw [IntKind.wrap_i64]; omega
  unfold execOp
  simp only [ho, hx, hy]
  simp [go_sem, eqGuard, hw]
theorem ex_subN {x y : Operand} (n : Nat) (ho : o.op = .binOp .sub 3 x y 3) (hx : a.eval x = .int .i64 ((n + 1 : Nat) : Int)) (hy : a.eval y = .int .i64 1) (hn : n ≤ 1000000000) : (execOp a.eval o).run Try.prog w = .ok (.value (.int .i64 (n : Nat))) w := by
  have hw : IntKind.i64.wrap (n : Int) = (n : Int) := by rw [IntKind.wrap_i64]; omega
  unfold execOp
  simp only [ho, hx, hy]
  simp [go_sem, eqGuard, hw]
theorem bRw (p : PR) (n : Int) (w : World) : (Instr.build 74 #[(0, .agg p.cs.toArray), (1, .int .i64 n)]).run Try.prog w = .ok (.agg (p.cs ++ [Value.int .i64 n, Value.bool false]).toArray) w := by kernel_rfl
theorem ex_bRw {x0 x1 : Operand} (p : PR) (n : Int) (ho : o.op = .build 74 #[(0, x0), (1, x1)]) (h0 : a.eval x0 = .agg p.cs.toArray) (h1 : a.eval x1 = .int .i64 n) : (execOp a.eval o).run Try.prog w = .ok (.value (.agg (p.cs ++ [Value.int .i64 n, Value.bool false]).toArray)) w := by
  have e := bRw p n w
  unfold execOp
  simp only [ho, List.map_toArray, List.map_cons, List.map_nil, h0, h1]
  simp [e]
theorem ex_storeT {t : TypeId} {b p : Nat} {vs : List Value} {v : Value} {x y : Operand} (ho : o.op = .store t x y) (hx : a.eval x = .pointer (some ⟨b, p, none⟩)) (hy : a.eval y = v) (hv : v.cells.toList = vs) (h1 : ∀ u ∈ vs, u.oneCell' = true) (hi : (Try.prog.info? t).map (·.size) = some vs.length) (ht : w.there b p vs.length) :
    (execOp a.eval o).run Try.prog w = .ok .skip (w.setCells b p vs) := by
  unfold execOp
  simp only [ho, hx, hy, Instr.storeAt, Instr.sureAddr, Sem.run_bind, Sem.run_pure, Result.andThen_ok, run_storeVar_any w b p t v vs hv ht hi h1]
theorem ex_upd {m x y : Operand} {b : Nat} {k : KK} {r : Nat} {X : World} (ho : o.op = .mapUpdate 62 m x y) (hm : a.eval m = .map (some b)) (hx : a.eval x = k.agg) (hy : a.eval y = .int .i64 (r : Nat)) (h1 : (Instr.mapUpdate 62 (.map (some b)) k.agg (.int .i64 (r : Nat))).run Try.prog w = .ok () X) : (execOp a.eval o).run Try.prog w = .ok .skip X := by
  unfold execOp
  simp only [ho, hm, hx, hy]
  simp [h1]
end
/-- A row's element is written over. -/
theorem Sy.elem {w X : World} {E : List Nat} {L : List Ob} (h : Sy w X E L) (i : Nat) {base n g c j p : Nat} {rs : List RW} {r r' : RW} {vs : List Value} (hi : L[i]? = some (rowO base 74 22 (.slice (some ⟨g, 0, none⟩) n c) n (flatR rs))) (hn : rs.length = n) (hr : rs[j]? = some r) (hp : p + vs.length ≤ 22) (he : cput r.cs p vs = r'.cs) :
    X.there g (0 + j * 22 + p) vs.length ∧ Sy w (X.setCells g (0 + j * 22 + p) vs) E (L.set i (rowO base 74 22 (.slice (some ⟨g, 0, none⟩) n c) n (flatR (rs.set j r')))) := by
  have hj := (List.getElem?_eq_some_iff.1 hr).1
  have hlen : 0 + j * 22 + p + vs.length ≤ (flatR rs).length := by
    rw [flatR_len]
    have : (j + 1) * 22 ≤ rs.length * 22 := Nat.mul_le_mul_right 22 hj
    omega
  have hC := h.cell i hi (p := 0 + j * 22 + p) (vs := vs) hlen
  rw [flatR_put hr hp he] at hC
  obtain ⟨g', c', e, _, _, ht⟩ := own_at (h.get i hi) hn hr
  cases e
  exact ⟨fun t hlt => by
    have := ht (p + t) (by omega)
    rwa [← Nat.add_assoc] at this, hC⟩
def IxPost (w X : World) (B k : Nat) (d : DR) (e : Ending) (Y : World) : Prop := ∃ x : RX, e = .returned (.tuple #[]) ∧ DP w X B k d { d with rx := some x } Y ∧ lvs x.rs = d.abs.ps
/-- The rows of a draft, in the making. -/
structure IxI (w X Z : World) (B : Nat) (d : DR) (g mb n j : Nat) : Prop where
  ex : ∃ (rs : List RW) (F : KK → Option Nat) (nn sz : Nat), MK d.s.ps rs F j ∧ nn + j ≤ n ∧ Sy X Z (d.bs B) [boxO B (d.s.cs d.A d.cap ++ [.slice (some ⟨g, 0, none⟩) n n, .map (some mb)]), rowO w.heap.size 74 22 (.slice (some ⟨g, 0, none⟩) n n) n (flatR rs), mapO mb nn sz F]
theorem IxI.done {w X Z : World} {B k : Nat} {d : DR} {g mb n : Nat} (h : IxI w X Z B d g mb n 0) (hd : DI w X B k d) (hf : Fr w X []) (hx : d.rx = none) (hn : n = d.s.ps.length) (hk : 400 ≤ k) : IxPost w X B k d (.returned (.tuple #[])) Z := by
  obtain ⟨rs, F, nn, sz, hM, hnn, hS⟩ := h.ex
  have hg := hd.gd.2.2.1
  have hl : rs.length = n := hM.len.trans hn.symm
  refine ⟨⟨.slice (some ⟨g, 0, none⟩) n n, rs, mb, nn, sz, F⟩, rfl, ?_, ?_⟩
  · refine DI.end1 (x' := ⟨.slice (some ⟨g, 0, none⟩) n n, rs, mb, nn, sz, F⟩) (M := []) hd.base hf ?_ rfl hd.rd hd.gd hM.ri (fun r hr => ?_) (by rw [hl, hn]; omega) (by dsimp only; omega)
    · subst hl
      exact hS
    · obtain ⟨j, hj⟩ := List.getElem?_of_mem hr
      have h1 := (hM.at_ j r (Nat.zero_le _) hj).2
      exact ⟨(hd.rd j r.p h1).1, hd.gd.2.2.2 r.p (List.mem_of_getElem? h1)⟩
  · rw [hM.done]
    simp [DR.abs, hx]
set_option maxHeartbeats 4000000 in
set_option maxRecDepth 100000 in
theorem index_any (d : DR) (B k : Nat) (w X : World) (hf : Fr w X []) (hd : DI w X B k d) (hk : 400 ≤ k) : Calls Try.prog 29 #[.pointer (some ⟨B, 0, none⟩)] X (IxPost w X B k d) := by
  have HK := hide hk
  have HF := hide hf
  cases hx : d.rx
  · have LL := hide (hd.sy0 hx)
    have hcs : d.cs = d.s.cs d.A d.cap ++ [.slice none 0 0, .map none] := by unfold DR.cs DR.tl; rw [hx]
    rw [hcs] at LL
    have HN : Hid (d.s.ps.length ≤ 100000) := hide (by have := hd.gd.2.2.1; omega)
    have HD := hide hd
    have HX := hide hx
    have hwn : IntKind.i64.wrap ((d.s.ps.length : Int) - 1) = (d.s.ps.length : Int) - 1 := by have := unhide HN; rw [IntKind.wrap_i64]; omega
    clear hd hx hcs hf hk
    go_enter Try.func29, Try.ntmps29
    go_wp2_with (first | go_skip | ((with_reducible show wpList _ _ _ _ _ _); first | ((refine rd (by rfl) (ex_load1 62 Try.isAgg62 rfl rfl ((unhide LL).hold 0 rfl) rfl) ?_); simp only [Act.put, List.setIfInBounds_toArray, List.set_cons_succ, List.set_cons_zero]) | ((refine rd (by rfl) (ex_load1 46 Try.isAgg46 rfl rfl ((unhide LL).hold 0 rfl) rfl) ?_); simp only [Act.put, List.setIfInBounds_toArray, List.set_cons_succ, List.set_cons_zero]) | ((refine rd (by rfl) (ex_load1 61 Try.isAgg61 rfl rfl ((unhide LL).hold 0 rfl) rfl) ?_); simp only [Act.put, List.setIfInBounds_toArray, List.set_cons_succ, List.set_cons_zero]) | ((refine rd (by rfl) (ex_neM rfl rfl rfl) ?_); simp only [Act.put, List.setIfInBounds_toArray, List.set_cons_succ, List.set_cons_zero]) | ((refine rd (by rfl) (ex_neM0 rfl rfl rfl) ?_); simp only [Act.put, List.setIfInBounds_toArray, List.set_cons_succ, List.set_cons_zero]) | ((refine rd (by rfl) (ex_lenG 46 56 Try.underlying46 rfl rfl) ?_); simp only [Act.put, List.setIfInBounds_toArray, List.set_cons_succ, List.set_cons_zero]) | ((refine rd (by rfl) (ex_lenG 61 74 Try.underlying61 rfl rfl) ?_); simp only [Act.put, List.setIfInBounds_toArray, List.set_cons_succ, List.set_cons_zero]) | ((refine mkR w.heap.size d.s.ps.length (by rfl) rfl rfl rfl (unhide HN) (unhide LL) (Nat.le_trans (unhide HF).size (unhide LL).fr.size) ?_); intro X1 B1 hE1 L1 hb1; replace LL := hide L1; clear L1 hb1 hE1; simp only [Act.put, List.setIfInBounds_toArray, List.set_cons_succ, List.set_cons_zero]) | ((refine stS (vs := [.slice (some ⟨B1, 0, none⟩) d.s.ps.length d.s.ps.length]) 0 61 (by rfl) rfl rfl rfl rfl (by simp [Value.oneCell']) szWs (unhide LL) rfl (by simp [cput, DR.cs, DR.tl, SH.cs, VV.cs]) ?_); intro X2 L2 hf2 hs2; replace LL := hide L2; clear L2 hf2 hs2; simp only [Act.put, List.setIfInBounds_toArray, List.set_cons_succ, List.set_cons_zero]) | ((refine mmS (by rfl) rfl rfl (unhide LL) ?_); intro X3 B3 hE3 L3 hb3; replace LL := hide L3; clear L3 hb3 hE3; simp only [Act.put, List.setIfInBounds_toArray, List.set_cons_succ, List.set_cons_zero]) | ((refine stS (vs := [.map (some B3)]) 0 62 (by rfl) rfl rfl rfl rfl (by simp [Value.oneCell']) szM (unhide LL) rfl (by simp [cput, DR.cs, DR.tl, SH.cs, VV.cs]) ?_); intro X4 L4 hf4 hs4; replace LL := hide L4; clear L4 hf4 hs4; simp only [Act.put, List.setIfInBounds_toArray, List.set_cons_succ, List.set_cons_zero])))
    have HI : Hid (IxI w X _ B d B1 B3 d.s.ps.length d.s.ps.length) := hide ⟨⟨_, _, 0, 0, MK.start d.s.ps (List.replicate d.s.ps.length zeroW) (by simp), by omega, unhide LL⟩⟩
    clear LL
    go_loopg [2] d.s.ps.length (fun gm s2 wr => ∃ (v : Int) (j : Nat), s2 = .int .i64 v ∧ v = (j : Int) - 1 ∧ j ≤ d.s.ps.length ∧ j ≤ gm ∧ Hid (IxI w X wr B d B1 B3 d.s.ps.length j))
    case atStart => exact ⟨_, d.s.ps.length, rfl, by first | rfl | simp [hwn], by omega, by omega, HI⟩
    case round =>
      clear HI hwn
      obtain ⟨v, j, rfl, hv, hjl, hgm, HI⟩ := hrel
      cases j with
      | zero =>
        have dge : decide ((0 : Int) ≤ v) = false := decide_eq_false (by omega)
        clear hjl hgm
        go_wp2
        go_end0
        exact (unhide HI).done (unhide HD) (unhide HF) (unhide HX) rfl (unhide HK)
      | succ j =>
        obtain rfl : v = (j : Int) := by omega
        have dge : decide ((0 : Int) ≤ (j : Int)) = true := decide_eq_true (by omega)
        have hw1 : IntKind.i64.wrap ((j : Int) - 1) = (j : Int) - 1 := by have := unhide HN; rw [IntKind.wrap_i64]; omega
        obtain ⟨rs, F, nn, sz, hM, hnn, hS⟩ := (unhide HI).ex
        obtain ⟨p, hp⟩ : ∃ p, d.s.ps[j]? = some p := ⟨_, List.getElem?_eq_getElem hjl⟩
        obtain ⟨hok, b, off, hA, hb, hrg⟩ := (unhide HD).rd j p hp
        have HLT := hide hjl
        have hba := hide (unhide HD).base
        have HA := hide hA
        have HA2 : Hid (∀ Z, Fr X Z (d.bs B) → Z.rangeAt b (off + j * 20) p.cs) := hide (fun Z hZ => rangeAt_fr hrg hb ((unhide HF).trans hZ (fun c hc => .inr (unhide hba c hc))))
        obtain ⟨r, hr⟩ : ∃ r, rs[j]? = some r := ⟨_, List.getElem?_eq_getElem (by rw [hM.len]; exact hjl)⟩
        have HR := hide (And.intro hr hM.len)
        have HOK := hide hok.2
        have HMK := hide (hM.step hp)
        have HNN := hide hnn
        have LL := hide hS
        clear hM hnn hS hp hok hA hb hrg hjl hr HI hv
        go_wp2_with (first | go_skip | ((with_reducible show wpList _ _ _ _ _ _); first | ((refine rd (by rfl) (ex_load1 46 Try.isAgg46 rfl rfl ((unhide LL).hold 0 rfl) rfl) ?_); simp only [Act.put, List.setIfInBounds_toArray, List.set_cons_succ, List.set_cons_zero]) | ((refine rd (by rfl) (ex_indexA 46 20 j unPs idPs rfl rfl (unhide HA) rfl (unhide HLT)) ?_); simp only [Act.put, List.setIfInBounds_toArray, List.set_cons_succ, List.set_cons_zero]) | ((refine rd (by rfl) (ex_loadR (vs := p.cs) 56 20 rwP szP rfl rfl (unhide HA2 _ (unhide LL).fr) rfl) ?_); simp only [Act.put, List.setIfInBounds_toArray, List.set_cons_succ, List.set_cons_zero]) | ((refine alS (v := .agg (zeroP.cs).toArray) 56 (zeroP.cs) (by rfl) rfl (fun w => by kernel_rfl) rfl (Nat.succ_pos _) (unhide LL) ?_); intro X5 B5 hE5 L5 hb5; replace LL := hide L5; clear L5 hb5 hE5; simp only [Act.put, List.setIfInBounds_toArray, List.set_cons_succ, List.set_cons_zero]) | ((refine stS (vs := p.cs) 3 56 (by rfl) rfl rfl rfl rfl (pcs_one p) (szP) (unhide LL) rfl (by simp [cput, PR.cs, SH.cs, VV.cs, KK.cs, DD.cs, CO.cs, DL.cs, zeroP, zeroS, zeroD, zeroV]) ?_); intro X6 L6 hf6 hs6; replace LL := hide L6; clear L6 hf6 hs6; simp only [Act.put, List.setIfInBounds_toArray, List.set_cons_succ, List.set_cons_zero])))
        have ht0 : Sy X _ (d.bs B) [boxO B (d.s.cs d.A d.cap ++ [Value.slice (some ⟨B1, 0, none⟩) d.s.ps.length d.s.ps.length, .map (some B3)]), rowO w.heap.size 74 22 (.slice (some ⟨B1, 0, none⟩) d.s.ps.length d.s.ps.length) d.s.ps.length (flatR rs), mapO B3 nn sz F, boxO B5 p.cs] := (unhide LL).drew
        have hh0 := And.intro (ht0.hold 0 rfl) (And.intro (ht0.hold 3 rfl) (ht0.get 2 rfl))
        refine wp_region_held_drew (P := Try.prog) (S := fun Z => Holds Z B (d.s.cs d.A d.cap ++ [Value.slice (some ⟨B1, 0, none⟩) d.s.ps.length d.s.ps.length, .map (some B3)]) ∧ Holds Z B5 p.cs ∧ MapI Z B3 nn sz F) (by kernel_rfl) hh0 (fun hS0 => ?_)
        refine gsem 0 (some 46) (.pointer (some ⟨B, 0, none⟩)) rfl (by kernel_rfl) (by kernel_rfl) (by kernel_rfl) (fun _ _ _ h => h) (by kernel_rfl) (by kernel_rfl) (fun _ _ => by kernel_rfl) hh0 ?_
        simp only [Act.put, List.setIfInBounds_toArray, List.set_cons_succ, List.set_cons_zero]
        refine gsem 1 (some 47) (.pointer (some ⟨B, 0, none⟩)) rfl (by kernel_rfl) (by kernel_rfl) (by kernel_rfl) (fun _ _ _ h => h) (by kernel_rfl) (by kernel_rfl) (fun _ _ => by kernel_rfl) hh0 ?_
        simp only [Act.put, List.setIfInBounds_toArray, List.set_cons_succ, List.set_cons_zero]
        refine gsem 2 (some 48) (.pointer (some ⟨B, 8, none⟩)) rfl (by kernel_rfl) (by kernel_rfl) (by kernel_rfl) (fun _ _ _ h => h) (by kernel_rfl) (by kernel_rfl) (fun _ _ => by kernel_rfl) hh0 ?_
        simp only [Act.put, List.setIfInBounds_toArray, List.set_cons_succ, List.set_cons_zero]
        refine gsem 3 (some 49) (.slice (some ⟨B1, 0, none⟩) d.s.ps.length d.s.ps.length) rfl (by kernel_rfl) (by kernel_rfl) (by kernel_rfl) (fun _ _ _ h => h) (by kernel_rfl) (by kernel_rfl) (fun X hX => ex_load1 61 Try.isAgg61 rfl rfl (hX.1) rfl) hh0 ?_
        simp only [Act.put, List.setIfInBounds_toArray, List.set_cons_succ, List.set_cons_zero]
        refine gsem 4 (some 50) (.int .i64 (j : Nat)) rfl (by kernel_rfl) (by kernel_rfl) (by kernel_rfl) (fun _ _ _ h => h) (by kernel_rfl) (by kernel_rfl) (fun _ _ => by kernel_rfl) hh0 ?_
        simp only [Act.put, List.setIfInBounds_toArray, List.set_cons_succ, List.set_cons_zero]
        refine gsem 5 (some 51) (.agg p.cs.toArray) rfl (by kernel_rfl) (by kernel_rfl) (by kernel_rfl) (fun _ _ _ h => h) (by kernel_rfl) (by kernel_rfl) (fun X hX => ex_loadN (vs := p.cs) 56 20 rwP szP rfl rfl (hX.2.1) rfl rfl) hh0 ?_
        simp only [Act.put, List.setIfInBounds_toArray, List.set_cons_succ, List.set_cons_zero]
        refine gsem 6 (some 52) (.pointer (some ⟨B, 0, none⟩)) rfl (by kernel_rfl) (by kernel_rfl) (by kernel_rfl) (fun _ _ _ h => h) (by kernel_rfl) (by kernel_rfl) (fun _ _ => by kernel_rfl) hh0 ?_
        simp only [Act.put, List.setIfInBounds_toArray, List.set_cons_succ, List.set_cons_zero]
        refine gsem 7 (some 53) (.pointer (some ⟨B, 0, none⟩)) rfl (by kernel_rfl) (by kernel_rfl) (by kernel_rfl) (fun _ _ _ h => h) (by kernel_rfl) (by kernel_rfl) (fun _ _ => by kernel_rfl) hh0 ?_
        simp only [Act.put, List.setIfInBounds_toArray, List.set_cons_succ, List.set_cons_zero]
        refine gsem 8 (some 54) (.pointer (some ⟨B, 9, none⟩)) rfl (by kernel_rfl) (by kernel_rfl) (by kernel_rfl) (fun _ _ _ h => h) (by kernel_rfl) (by kernel_rfl) (fun _ _ => by kernel_rfl) hh0 ?_
        simp only [Act.put, List.setIfInBounds_toArray, List.set_cons_succ, List.set_cons_zero]
        refine gsem 9 (some 55) (.map (some B3)) rfl (by kernel_rfl) (by kernel_rfl) (by kernel_rfl) (fun _ _ _ h => h) (by kernel_rfl) (by kernel_rfl) (fun X hX => ex_load1 62 Try.isAgg62 rfl rfl (hX.1) rfl) hh0 ?_
        simp only [Act.put, List.setIfInBounds_toArray, List.set_cons_succ, List.set_cons_zero]
        refine gsem 10 (some 56) (.pointer (some ⟨B5, 0, none⟩)) rfl (by kernel_rfl) (by kernel_rfl) (by kernel_rfl) (fun _ _ _ h => h) (by kernel_rfl) (by kernel_rfl) (fun _ _ => by kernel_rfl) hh0 ?_
        simp only [Act.put, List.setIfInBounds_toArray, List.set_cons_succ, List.set_cons_zero]
        refine gsem 11 (some 57) (.agg p.k.cs.toArray) rfl (by kernel_rfl) (by kernel_rfl) (by kernel_rfl) (fun _ _ _ h => h) (by kernel_rfl) (by kernel_rfl) (fun X hX => ex_loadN (vs := p.k.cs) 30 2 rwK szK rfl rfl (hX.2.1) rfl rfl) hh0 ?_
        simp only [Act.put, List.setIfInBounds_toArray, List.set_cons_succ, List.set_cons_zero]
        refine gsem 12 (some 58) (.int .i64 (nz (F p.k))) rfl (by kernel_rfl) (by kernel_rfl) (by kernel_rfl) (fun _ _ _ h => h) (by kernel_rfl) (by kernel_rfl) (fun X hX => ex_look1 rfl rfl rfl hX.2.2 (unhide HOK) rfl) hh0 ?_
        simp only [Act.put, List.setIfInBounds_toArray, List.set_cons_succ, List.set_cons_zero]
        refine gsem 13 (some 59) (.agg (p.cs ++ [Value.int .i64 (nz (F p.k)), .bool false]).toArray) rfl (by kernel_rfl) (by kernel_rfl) (by kernel_rfl) (fun _ _ _ h => h) (by kernel_rfl) (by kernel_rfl) (fun X hX => ex_bRw p _ rfl rfl rfl) hh0 ?_
        simp only [Act.put, List.setIfInBounds_toArray, List.set_cons_succ, List.set_cons_zero]
        refine gsem 14 (some 60) (.pointer (some ⟨B1, 0 + j * 22, none⟩)) rfl (by kernel_rfl) (by kernel_rfl) (by kernel_rfl) (fun _ _ _ h => h) (by kernel_rfl) (by kernel_rfl) (fun X hX => ex_indexG 61 22 j unWs idWs rfl rfl rfl (unhide HLT)) hh0 ?_
        simp only [Act.put, List.setIfInBounds_toArray, List.set_cons_succ, List.set_cons_zero]
        obtain ⟨hth, ht1⟩ := ht0.elem 1 (p := 0) (vs := p.cs ++ [Value.int .i64 (nz (F p.k)), .bool false]) (r' := ⟨p, (F p.k).getD 0, false⟩) rfl (unhide HR).2 (unhide HR).1 (by show 22 ≤ 22; omega) (by rw [nz_getD]; rfl)
        refine wpAnyH_ready (rs := [15]) (by kernel_rfl) (by simp) (gskp 15 none rfl (by kernel_rfl) (by kernel_rfl) (ex_storeT (t := 74) (vs := p.cs ++ [Value.int .i64 (nz (F p.k)), .bool false]) rfl rfl rfl rfl (by simp [PR.cs, KK.cs, DD.cs, Value.oneCell']) szW hth) (And.intro (ht1.hold 0 rfl) (And.intro (ht1.hold 3 rfl) (ht1.get 2 rfl))) ?_ AllReadyH.nil)
        simp only [Act.put, List.setIfInBounds_toArray, List.set_cons_succ, List.set_cons_zero]
        refine wpAnyH_done (by kernel_rfl) ?_ _
        try simp only [Act.put, List.setIfInBounds_toArray, List.set_cons_succ, List.set_cons_zero]
        clear hh0 hS0 LL hth
        generalize hW7 : World.setCells _ _ _ _ = W7 at ht1 ⊢
        clear hW7 ht0
        go_wp2_with fail
        have ht2 : Sy X _ (d.bs B) [boxO B (d.s.cs d.A d.cap ++ [Value.slice (some ⟨B1, 0, none⟩) d.s.ps.length d.s.ps.length, .map (some B3)]), rowO w.heap.size 74 22 (.slice (some ⟨B1, 0, none⟩) d.s.ps.length d.s.ps.length) d.s.ps.length (flatR (rs.set j ⟨p, (F p.k).getD 0, false⟩)), mapO B3 nn sz F, boxO B5 p.cs] := ht1.drew
        have hh2 := And.intro (ht2.hold 0 rfl) (ht2.hold 3 rfl)
        refine wp_region_held_drew (P := Try.prog) (S := fun Z => Holds Z B (d.s.cs d.A d.cap ++ [Value.slice (some ⟨B1, 0, none⟩) d.s.ps.length d.s.ps.length, .map (some B3)]) ∧ Holds Z B5 p.cs) (by kernel_rfl) hh2 (fun hS0 => ?_)
        refine gsem 0 (some 61) (.pointer (some ⟨B, 0, none⟩)) rfl (by kernel_rfl) (by kernel_rfl) (by kernel_rfl) (fun _ _ _ h => h) (by kernel_rfl) (by kernel_rfl) (fun _ _ => by kernel_rfl) hh2 ?_
        simp only [Act.put, List.setIfInBounds_toArray, List.set_cons_succ, List.set_cons_zero]
        refine gsem 1 (some 62) (.pointer (some ⟨B, 0, none⟩)) rfl (by kernel_rfl) (by kernel_rfl) (by kernel_rfl) (fun _ _ _ h => h) (by kernel_rfl) (by kernel_rfl) (fun _ _ => by kernel_rfl) hh2 ?_
        simp only [Act.put, List.setIfInBounds_toArray, List.set_cons_succ, List.set_cons_zero]
        refine gsem 2 (some 63) (.pointer (some ⟨B, 9, none⟩)) rfl (by kernel_rfl) (by kernel_rfl) (by kernel_rfl) (fun _ _ _ h => h) (by kernel_rfl) (by kernel_rfl) (fun _ _ => by kernel_rfl) hh2 ?_
        simp only [Act.put, List.setIfInBounds_toArray, List.set_cons_succ, List.set_cons_zero]
        refine gsem 3 (some 64) (.map (some B3)) rfl (by kernel_rfl) (by kernel_rfl) (by kernel_rfl) (fun _ _ _ h => h) (by kernel_rfl) (by kernel_rfl) (fun X hX => ex_load1 62 Try.isAgg62 rfl rfl (hX.1) rfl) hh2 ?_
        simp only [Act.put, List.setIfInBounds_toArray, List.set_cons_succ, List.set_cons_zero]
        refine gsem 4 (some 65) (.pointer (some ⟨B5, 0, none⟩)) rfl (by kernel_rfl) (by kernel_rfl) (by kernel_rfl) (fun _ _ _ h => h) (by kernel_rfl) (by kernel_rfl) (fun _ _ => by kernel_rfl) hh2 ?_
        simp only [Act.put, List.setIfInBounds_toArray, List.set_cons_succ, List.set_cons_zero]
        refine gsem 5 (some 66) (.agg p.k.cs.toArray) rfl (by kernel_rfl) (by kernel_rfl) (by kernel_rfl) (fun _ _ _ h => h) (by kernel_rfl) (by kernel_rfl) (fun X hX => ex_loadN (vs := p.k.cs) 30 2 rwK szK rfl rfl (hX.2) rfl rfl) hh2 ?_
        simp only [Act.put, List.setIfInBounds_toArray, List.set_cons_succ, List.set_cons_zero]
        refine gsem 6 (some 67) (.int .i64 (j : Nat)) rfl (by kernel_rfl) (by kernel_rfl) (by kernel_rfl) (fun _ _ _ h => h) (by kernel_rfl) (by kernel_rfl) (fun _ _ => by kernel_rfl) hh2 ?_
        simp only [Act.put, List.setIfInBounds_toArray, List.set_cons_succ, List.set_cons_zero]
        refine gsem 7 (some 68) (.int .i64 ((j + 1 : Nat) : Int)) rfl (by kernel_rfl) (by kernel_rfl) (by kernel_rfl) (fun _ _ _ h => h) (by kernel_rfl) (by kernel_rfl) (fun X hX => ex_addN j rfl rfl rfl (by have := unhide HN; have := unhide HLT; omega)) hh2 ?_
        simp only [Act.put, List.setIfInBounds_toArray, List.set_cons_succ, List.set_cons_zero]
        obtain ⟨W8, hW8, hM8, hf8⟩ := MapI.store (ht2.get 2 rfl) (k := p.k) (unhide HOK) (by have := unhide HNN; have := unhide HN; unfold maxLen; omega) (j + 1)
        have ht3 := ht2.mput 2 rfl hM8 (Fr.grown hf8.grown)
        refine wpAnyH_ready (rs := [8]) (by kernel_rfl) (by simp) (gskp 8 none rfl (by kernel_rfl) (by kernel_rfl) (ex_upd rfl rfl rfl rfl hW8) (And.intro (ht3.hold 0 rfl) (ht3.hold 3 rfl)) ?_ AllReadyH.nil)
        simp only [Act.put, List.setIfInBounds_toArray, List.set_cons_succ, List.set_cons_zero]
        refine wpAnyH_done (by kernel_rfl) ?_ _
        try simp only [Act.put, List.setIfInBounds_toArray, List.set_cons_succ, List.set_cons_zero]
        have HI : Hid (IxI w X W8 B d B1 B3 d.s.ps.length j) := hide ⟨⟨_, _, _, _, unhide HMK, by have := unhide HNN; omega, Sy.left (L := [boxO B (d.s.cs d.A d.cap ++ [Value.slice (some ⟨B1, 0, none⟩) d.s.ps.length d.s.ps.length, .map (some B3)]), rowO w.heap.size 74 22 (.slice (some ⟨B1, 0, none⟩) d.s.ps.length d.s.ps.length) d.s.ps.length (flatR (rs.set j ⟨p, (F p.k).getD 0, false⟩)), mapO B3 (nn + 1) (if (F p.k).isSome then sz else sz + 1) (putF F p.k (j + 1))]) ht3⟩⟩
        clear ht1 ht2 ht3 hh2 hM8 hW8 hf8 hS0
        go_wp2_with fail
        go_roundg j
        case measure => omega
        case rel => exact ⟨(j : Int) - 1, j, by go_num, rfl, by have := unhide HLT; omega, by omega, HI⟩
  · rename_i x
    have LL := hide (hd.sy1 hx)
    have hcs : d.cs = d.s.cs d.A d.cap ++ [x.v, .map (some x.mb)] := by unfold DR.cs DR.tl; rw [hx]
    rw [hcs] at LL
    have HD := hide hd
    have HX := hide hx
    clear hd hx hcs hf hk
    go_enter Try.func29, Try.ntmps29
    go_wp2_with (first | go_skip | ((with_reducible show wpList _ _ _ _ _ _); first | ((refine rd (by rfl) (ex_load1 62 Try.isAgg62 rfl rfl ((unhide LL).hold 0 rfl) rfl) ?_); simp only [Act.put, List.setIfInBounds_toArray, List.set_cons_succ, List.set_cons_zero]) | ((refine rd (by rfl) (ex_load1 46 Try.isAgg46 rfl rfl ((unhide LL).hold 0 rfl) rfl) ?_); simp only [Act.put, List.setIfInBounds_toArray, List.set_cons_succ, List.set_cons_zero]) | ((refine rd (by rfl) (ex_load1 61 Try.isAgg61 rfl rfl ((unhide LL).hold 0 rfl) rfl) ?_); simp only [Act.put, List.setIfInBounds_toArray, List.set_cons_succ, List.set_cons_zero]) | ((refine rd (by rfl) (ex_neM rfl rfl rfl) ?_); simp only [Act.put, List.setIfInBounds_toArray, List.set_cons_succ, List.set_cons_zero]) | ((refine rd (by rfl) (ex_neM0 rfl rfl rfl) ?_); simp only [Act.put, List.setIfInBounds_toArray, List.set_cons_succ, List.set_cons_zero]) | ((refine rd (by rfl) (ex_lenG 46 56 Try.underlying46 rfl rfl) ?_); simp only [Act.put, List.setIfInBounds_toArray, List.set_cons_succ, List.set_cons_zero]) | ((refine rd (by rfl) (ex_lenG 61 74 Try.underlying61 rfl rfl) ?_); simp only [Act.put, List.setIfInBounds_toArray, List.set_cons_succ, List.set_cons_zero]) | ((refine mkR w.heap.size d.s.ps.length (by rfl) rfl rfl rfl (unhide HN) (unhide LL) (Nat.le_trans (unhide HF).size (unhide LL).fr.size) ?_); intro X1 B1 hE1 L1 hb1; replace LL := hide L1; clear L1 hb1 hE1; simp only [Act.put, List.setIfInBounds_toArray, List.set_cons_succ, List.set_cons_zero]) | ((refine stS (vs := [.slice (some ⟨B1, 0, none⟩) d.s.ps.length d.s.ps.length]) 0 61 (by rfl) rfl rfl rfl rfl (by simp [Value.oneCell']) szWs (unhide LL) rfl (by simp [cput, DR.cs, DR.tl, SH.cs, VV.cs]) ?_); intro X2 L2 hf2 hs2; replace LL := hide L2; clear L2 hf2 hs2; simp only [Act.put, List.setIfInBounds_toArray, List.set_cons_succ, List.set_cons_zero]) | ((refine mmS (by rfl) rfl rfl (unhide LL) ?_); intro X3 B3 hE3 L3 hb3; replace LL := hide L3; clear L3 hb3 hE3; simp only [Act.put, List.setIfInBounds_toArray, List.set_cons_succ, List.set_cons_zero]) | ((refine stS (vs := [.map (some B3)]) 0 62 (by rfl) rfl rfl rfl rfl (by simp [Value.oneCell']) szM (unhide LL) rfl (by simp [cput, DR.cs, DR.tl, SH.cs, VV.cs]) ?_); intro X4 L4 hf4 hs4; replace LL := hide L4; clear L4 hf4 hs4; simp only [Act.put, List.setIfInBounds_toArray, List.set_cons_succ, List.set_cons_zero])))
    go_end0
    refine ⟨x, rfl, ?_, by simp [DR.abs, unhide HX]⟩
    have e : ({ d with rx := some x } : DR) = d := by have := unhide HX; cases d; cases this; rfl
    rw [e]
    exact ⟨unhide HD, Fr.refl _ _, fun b hb => .inl hb⟩
end Go.Proofs.Ytcflglloopgieaa
