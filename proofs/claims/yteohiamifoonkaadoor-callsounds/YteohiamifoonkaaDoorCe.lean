import Derived.Test.YteohiamifoonkaaDoorCd
namespace Go.Proofs.YteohiamifoonkaaDoor
open Go Go.Proofs Go.Maps Go.RowKit FM
set_option linter.unusedSimpArgs false
set_option linter.unusedVariables false
set_option maxHeartbeats 1000000
theorem infI : (Tryd.prog.info? 3).map (fun i => (i.zero, i.size, i.bytes)) = some (some (.int .i64 0), 1, 8) := by kernel_rfl
theorem reads_holds {X : World} {B : Nat} {l : List Int} (h : Holds X B (l.map fun n => Value.int .i64 n)) (hlt : B < X.heap.size) : ReadsI X (some ⟨B, 0, none⟩) l := fun j n hn => by
  refine ⟨B, 0, rfl, hlt, fun i v hv => ?_⟩
  have h1 := h.cell j (v := .int .i64 n) (by rw [List.getElem?_map, hn]; rfl)
  match i, hv with
  | 0, hv =>
    obtain rfl : Value.int .i64 n = v := by simpa using hv
    simpa using h1
def RegPost (w : World) (l : List Int) (e : Ending) (X : World) : Prop := ∃ A c, e = .returned (.slice A l.length c) ∧ ReadsI X A l ∧ Below w.heap.size w X
def n1 (c : Int) : Bool := c == 2 || c == 7 || c == 8 || c == 9 || c == 22 || c == 10 || c == 13 || c == 14 || c == 15 || c == 16 || c == 18 || c == 19
def n2 (c : Int) : Bool := c == 11 || c == 12 || c == 17 || c == 21 || c == 23
def n3 (c : Int) : Bool := c == 20 || c == 24
def regL (o : OP) : List Int := if n1 o.c = true then [o.a] else if n2 o.c = true then [o.a, o.b] else if n3 o.c = true then [o.a, o.b, o.d] else []
def rstV (o : OP) : Bool := if o.c = 1 then o.v.good else if o.c = 4 then decide (0 ≤ o.a) else if o.c = 9 then decide (0 ≤ o.b) else if o.c = 12 then (rgoodV o.e && !(o.f && accV o.e)) else true
def sndV (o : OP) : Bool := (decide (1 ≤ o.c) && decide (o.c ≤ 24)) && (rgB o.t && (!(regL o).any (fun n => !rgB n) && ((!useK o.c || goodK o.k) && rstV o)))
theorem chk_good (d : DD) : chkV d = if rgoodV d = true then 0 else 5 := by
  have h := (four d).1.1
  unfold chkV
  rw [h]
  by_cases hk : kindV d = 0 <;> simp [hk]
theorem buildI1 {ops : Array Oper} {rest : List Oper} {Q : Exit → Act → World → Prop} {w w0 : World} {a : Act} {o : Oper} {E : List Nat} {L : List (Nat × List Value)} {x0 : Operand} (m0 : Int) (hw : Region.wanted o (yielded ops a.tmps) = true) (ho : o.op = .buildSlice 59 1 #[(0, x0)]) (h0 : a.eval x0 = .int .i64 m0) (hL : Hq w0 w E L)
    (h : ∀ X B, B = w.heap.size → Hq w0 X E (L ++ [(B, [.int .i64 m0])]) → Below w.heap.size w X → wpList Tryd.prog ops Q rest (a.put o.dst (.slice (some ⟨B, 0, none⟩) 1 1)) X) : wpList Tryd.prog ops Q (o :: rest) a w := by
  refine BigFrame.wpList_want hw fun K hK => ?_
  obtain ⟨i0, hi, hz0, hz1, hz2⟩ := info_parts infI
  refine wp_buildSlice 59 3 1 _ ho #[.int .i64 m0] i0 _ Tryd.underlying59 hi hz0 (by rw [hz1]; omega) (by rw [hz1]; omega) ?_ (hK _ _ (h _ _ rfl (hL.new [.int .i64 m0] 3 (by simp)) ((Below.refl _ _).alloc (Nat.le_refl _) _)))
  rw [hz1]
  simp only [List.map_toArray, List.map_cons, List.map_nil, h0]
  kernel_rfl
theorem buildI2 {ops : Array Oper} {rest : List Oper} {Q : Exit → Act → World → Prop} {w w0 : World} {a : Act} {o : Oper} {E : List Nat} {L : List (Nat × List Value)} {x0 x1 : Operand} (m0 m1 : Int) (hw : Region.wanted o (yielded ops a.tmps) = true) (ho : o.op = .buildSlice 59 2 #[(0, x0), (1, x1)]) (h0 : a.eval x0 = .int .i64 m0) (h1 : a.eval x1 = .int .i64 m1) (hL : Hq w0 w E L)
    (h : ∀ X B, B = w.heap.size → Hq w0 X E (L ++ [(B, [.int .i64 m0, .int .i64 m1])]) → Below w.heap.size w X → wpList Tryd.prog ops Q rest (a.put o.dst (.slice (some ⟨B, 0, none⟩) 2 2)) X) : wpList Tryd.prog ops Q (o :: rest) a w := by
  refine BigFrame.wpList_want hw fun K hK => ?_
  obtain ⟨i0, hi, hz0, hz1, hz2⟩ := info_parts infI
  refine wp_buildSlice 59 3 2 _ ho #[.int .i64 m0, .int .i64 m1] i0 _ Tryd.underlying59 hi hz0 (by rw [hz1]; omega) (by rw [hz1]; omega) ?_ (hK _ _ (h _ _ rfl (hL.new [.int .i64 m0, .int .i64 m1] 3 (by simp)) ((Below.refl _ _).alloc (Nat.le_refl _) _)))
  rw [hz1]
  simp only [List.map_toArray, List.map_cons, List.map_nil, h0, h1]
  kernel_rfl
theorem buildI3 {ops : Array Oper} {rest : List Oper} {Q : Exit → Act → World → Prop} {w w0 : World} {a : Act} {o : Oper} {E : List Nat} {L : List (Nat × List Value)} {x0 x1 x2 : Operand} (m0 m1 m2 : Int) (hw : Region.wanted o (yielded ops a.tmps) = true) (ho : o.op = .buildSlice 59 3 #[(0, x0), (1, x1), (2, x2)]) (h0 : a.eval x0 = .int .i64 m0) (h1 : a.eval x1 = .int .i64 m1) (h2 : a.eval x2 = .int .i64 m2) (hL : Hq w0 w E L)
    (h : ∀ X B, B = w.heap.size → Hq w0 X E (L ++ [(B, [.int .i64 m0, .int .i64 m1, .int .i64 m2])]) → Below w.heap.size w X → wpList Tryd.prog ops Q rest (a.put o.dst (.slice (some ⟨B, 0, none⟩) 3 3)) X) : wpList Tryd.prog ops Q (o :: rest) a w := by
  refine BigFrame.wpList_want hw fun K hK => ?_
  obtain ⟨i0, hi, hz0, hz1, hz2⟩ := info_parts infI
  refine wp_buildSlice 59 3 3 _ ho #[.int .i64 m0, .int .i64 m1, .int .i64 m2] i0 _ Tryd.underlying59 hi hz0 (by rw [hz1]; omega) (by rw [hz1]; omega) ?_ (hK _ _ (h _ _ rfl (hL.new [.int .i64 m0, .int .i64 m1, .int .i64 m2] 3 (by simp)) ((Below.refl _ _).alloc (Nat.le_refl _) _)))
  rw [hz1]
  simp only [List.map_toArray, List.map_cons, List.map_nil, h0, h1, h2]
  kernel_rfl
set_option maxRecDepth 100000 in
theorem regs1 (t a b d : Int) (k : KK) (v : VV) (e : DD) (x g : Bool) (w : World) : Calls Tryd.prog 21 #[OP.agg ⟨1, t, a, b, d, k, v, e, x, g⟩] w (RegPost w []) := by
  have LL := hide (Hq.nil w [])
  simp only [oagg]
  go_enter Tryd.func21, Tryd.ntmps21
  go_wp2_with (first | go_skip | ((with_reducible show wpList _ _ _ _ _ _); first | ((refine bx 34 (OP.cs ⟨1, t, a, b, d, k, v, e, x, g⟩) (by rfl) rfl rfl rfl (Nat.succ_pos _) (unhide LL) ?_); intro X1 B1 hE1 L1 hb1; have hB1 := hide (Nat.le_trans (unhide LL).fr.size (Nat.le_of_eq hE1.symm)); replace LL := hide L1; clear L1 hb1 hE1; simp only [Act.put, List.setIfInBounds_toArray, List.set_cons_succ, List.set_cons_zero]) | ((refine rd (by rfl) (ex_load1 3 Tryd.isAgg3 rfl rfl ((unhide LL).get 0 rfl) rfl) ?_); simp only [Act.put, List.setIfInBounds_toArray, List.set_cons_succ, List.set_cons_zero])))
  go_ret
  exact ⟨none, 0, rfl, fun j n hn => by simp at hn, (unhide LL).fr.below⟩
set_option maxRecDepth 100000 in
theorem regs2 (t a b d : Int) (k : KK) (v : VV) (e : DD) (x g : Bool) (w : World) : Calls Tryd.prog 21 #[OP.agg ⟨2, t, a, b, d, k, v, e, x, g⟩] w (RegPost w [a]) := by
  have LL := hide (Hq.nil w [])
  simp only [oagg]
  go_enter Tryd.func21, Tryd.ntmps21
  go_wp2_with (first | go_skip | ((with_reducible show wpList _ _ _ _ _ _); first | ((refine bx 34 (OP.cs ⟨2, t, a, b, d, k, v, e, x, g⟩) (by rfl) rfl rfl rfl (Nat.succ_pos _) (unhide LL) ?_); intro X1 B1 hE1 L1 hb1; have hB1 := hide (Nat.le_trans (unhide LL).fr.size (Nat.le_of_eq hE1.symm)); replace LL := hide L1; clear L1 hb1 hE1; simp only [Act.put, List.setIfInBounds_toArray, List.set_cons_succ, List.set_cons_zero]) | ((refine rd (by rfl) (ex_load1 3 Tryd.isAgg3 rfl rfl ((unhide LL).get 0 rfl) rfl) ?_); simp only [Act.put, List.setIfInBounds_toArray, List.set_cons_succ, List.set_cons_zero]) | ((refine buildI1 a (by rfl) rfl rfl (unhide LL) ?_); intro X7 B7 hE7 L7 hb7; replace LL := hide L7; clear L7 hb7 hE7; simp only [Act.put, List.setIfInBounds_toArray, List.set_cons_succ, List.set_cons_zero])))
  go_ret
  exact ⟨_, _, rfl, reads_holds (l := [a]) ((unhide LL).get 1 rfl) ((unhide LL).lt _ (List.mem_of_getElem? (i := 1) rfl)), (unhide LL).fr.below⟩
set_option maxRecDepth 100000 in
theorem regs3 (t a b d : Int) (k : KK) (v : VV) (e : DD) (x g : Bool) (w : World) : Calls Tryd.prog 21 #[OP.agg ⟨3, t, a, b, d, k, v, e, x, g⟩] w (RegPost w []) := by
  have LL := hide (Hq.nil w [])
  simp only [oagg]
  go_enter Tryd.func21, Tryd.ntmps21
  go_wp2_with (first | go_skip | ((with_reducible show wpList _ _ _ _ _ _); first | ((refine bx 34 (OP.cs ⟨3, t, a, b, d, k, v, e, x, g⟩) (by rfl) rfl rfl rfl (Nat.succ_pos _) (unhide LL) ?_); intro X1 B1 hE1 L1 hb1; have hB1 := hide (Nat.le_trans (unhide LL).fr.size (Nat.le_of_eq hE1.symm)); replace LL := hide L1; clear L1 hb1 hE1; simp only [Act.put, List.setIfInBounds_toArray, List.set_cons_succ, List.set_cons_zero]) | ((refine rd (by rfl) (ex_load1 3 Tryd.isAgg3 rfl rfl ((unhide LL).get 0 rfl) rfl) ?_); simp only [Act.put, List.setIfInBounds_toArray, List.set_cons_succ, List.set_cons_zero])))
  go_ret
  exact ⟨none, 0, rfl, fun j n hn => by simp at hn, (unhide LL).fr.below⟩
set_option maxRecDepth 100000 in
theorem regs4 (t a b d : Int) (k : KK) (v : VV) (e : DD) (x g : Bool) (w : World) : Calls Tryd.prog 21 #[OP.agg ⟨4, t, a, b, d, k, v, e, x, g⟩] w (RegPost w []) := by
  have LL := hide (Hq.nil w [])
  simp only [oagg]
  go_enter Tryd.func21, Tryd.ntmps21
  go_wp2_with (first | go_skip | ((with_reducible show wpList _ _ _ _ _ _); first | ((refine bx 34 (OP.cs ⟨4, t, a, b, d, k, v, e, x, g⟩) (by rfl) rfl rfl rfl (Nat.succ_pos _) (unhide LL) ?_); intro X1 B1 hE1 L1 hb1; have hB1 := hide (Nat.le_trans (unhide LL).fr.size (Nat.le_of_eq hE1.symm)); replace LL := hide L1; clear L1 hb1 hE1; simp only [Act.put, List.setIfInBounds_toArray, List.set_cons_succ, List.set_cons_zero]) | ((refine rd (by rfl) (ex_load1 3 Tryd.isAgg3 rfl rfl ((unhide LL).get 0 rfl) rfl) ?_); simp only [Act.put, List.setIfInBounds_toArray, List.set_cons_succ, List.set_cons_zero])))
  go_ret
  exact ⟨none, 0, rfl, fun j n hn => by simp at hn, (unhide LL).fr.below⟩
set_option maxRecDepth 100000 in
theorem regs5 (t a b d : Int) (k : KK) (v : VV) (e : DD) (x g : Bool) (w : World) : Calls Tryd.prog 21 #[OP.agg ⟨5, t, a, b, d, k, v, e, x, g⟩] w (RegPost w []) := by
  have LL := hide (Hq.nil w [])
  simp only [oagg]
  go_enter Tryd.func21, Tryd.ntmps21
  go_wp2_with (first | go_skip | ((with_reducible show wpList _ _ _ _ _ _); first | ((refine bx 34 (OP.cs ⟨5, t, a, b, d, k, v, e, x, g⟩) (by rfl) rfl rfl rfl (Nat.succ_pos _) (unhide LL) ?_); intro X1 B1 hE1 L1 hb1; have hB1 := hide (Nat.le_trans (unhide LL).fr.size (Nat.le_of_eq hE1.symm)); replace LL := hide L1; clear L1 hb1 hE1; simp only [Act.put, List.setIfInBounds_toArray, List.set_cons_succ, List.set_cons_zero]) | ((refine rd (by rfl) (ex_load1 3 Tryd.isAgg3 rfl rfl ((unhide LL).get 0 rfl) rfl) ?_); simp only [Act.put, List.setIfInBounds_toArray, List.set_cons_succ, List.set_cons_zero])))
  go_ret
  exact ⟨none, 0, rfl, fun j n hn => by simp at hn, (unhide LL).fr.below⟩
set_option maxRecDepth 100000 in
theorem regs6 (t a b d : Int) (k : KK) (v : VV) (e : DD) (x g : Bool) (w : World) : Calls Tryd.prog 21 #[OP.agg ⟨6, t, a, b, d, k, v, e, x, g⟩] w (RegPost w []) := by
  have LL := hide (Hq.nil w [])
  simp only [oagg]
  go_enter Tryd.func21, Tryd.ntmps21
  go_wp2_with (first | go_skip | ((with_reducible show wpList _ _ _ _ _ _); first | ((refine bx 34 (OP.cs ⟨6, t, a, b, d, k, v, e, x, g⟩) (by rfl) rfl rfl rfl (Nat.succ_pos _) (unhide LL) ?_); intro X1 B1 hE1 L1 hb1; have hB1 := hide (Nat.le_trans (unhide LL).fr.size (Nat.le_of_eq hE1.symm)); replace LL := hide L1; clear L1 hb1 hE1; simp only [Act.put, List.setIfInBounds_toArray, List.set_cons_succ, List.set_cons_zero]) | ((refine rd (by rfl) (ex_load1 3 Tryd.isAgg3 rfl rfl ((unhide LL).get 0 rfl) rfl) ?_); simp only [Act.put, List.setIfInBounds_toArray, List.set_cons_succ, List.set_cons_zero])))
  go_ret
  exact ⟨none, 0, rfl, fun j n hn => by simp at hn, (unhide LL).fr.below⟩
set_option maxRecDepth 100000 in
theorem regs7 (t a b d : Int) (k : KK) (v : VV) (e : DD) (x g : Bool) (w : World) : Calls Tryd.prog 21 #[OP.agg ⟨7, t, a, b, d, k, v, e, x, g⟩] w (RegPost w [a]) := by
  have LL := hide (Hq.nil w [])
  simp only [oagg]
  go_enter Tryd.func21, Tryd.ntmps21
  go_wp2_with (first | go_skip | ((with_reducible show wpList _ _ _ _ _ _); first | ((refine bx 34 (OP.cs ⟨7, t, a, b, d, k, v, e, x, g⟩) (by rfl) rfl rfl rfl (Nat.succ_pos _) (unhide LL) ?_); intro X1 B1 hE1 L1 hb1; have hB1 := hide (Nat.le_trans (unhide LL).fr.size (Nat.le_of_eq hE1.symm)); replace LL := hide L1; clear L1 hb1 hE1; simp only [Act.put, List.setIfInBounds_toArray, List.set_cons_succ, List.set_cons_zero]) | ((refine rd (by rfl) (ex_load1 3 Tryd.isAgg3 rfl rfl ((unhide LL).get 0 rfl) rfl) ?_); simp only [Act.put, List.setIfInBounds_toArray, List.set_cons_succ, List.set_cons_zero]) | ((refine buildI1 a (by rfl) rfl rfl (unhide LL) ?_); intro X7 B7 hE7 L7 hb7; replace LL := hide L7; clear L7 hb7 hE7; simp only [Act.put, List.setIfInBounds_toArray, List.set_cons_succ, List.set_cons_zero])))
  go_ret
  exact ⟨_, _, rfl, reads_holds (l := [a]) ((unhide LL).get 1 rfl) ((unhide LL).lt _ (List.mem_of_getElem? (i := 1) rfl)), (unhide LL).fr.below⟩
set_option maxRecDepth 100000 in
theorem regs8 (t a b d : Int) (k : KK) (v : VV) (e : DD) (x g : Bool) (w : World) : Calls Tryd.prog 21 #[OP.agg ⟨8, t, a, b, d, k, v, e, x, g⟩] w (RegPost w [a]) := by
  have LL := hide (Hq.nil w [])
  simp only [oagg]
  go_enter Tryd.func21, Tryd.ntmps21
  go_wp2_with (first | go_skip | ((with_reducible show wpList _ _ _ _ _ _); first | ((refine bx 34 (OP.cs ⟨8, t, a, b, d, k, v, e, x, g⟩) (by rfl) rfl rfl rfl (Nat.succ_pos _) (unhide LL) ?_); intro X1 B1 hE1 L1 hb1; have hB1 := hide (Nat.le_trans (unhide LL).fr.size (Nat.le_of_eq hE1.symm)); replace LL := hide L1; clear L1 hb1 hE1; simp only [Act.put, List.setIfInBounds_toArray, List.set_cons_succ, List.set_cons_zero]) | ((refine rd (by rfl) (ex_load1 3 Tryd.isAgg3 rfl rfl ((unhide LL).get 0 rfl) rfl) ?_); simp only [Act.put, List.setIfInBounds_toArray, List.set_cons_succ, List.set_cons_zero]) | ((refine buildI1 a (by rfl) rfl rfl (unhide LL) ?_); intro X7 B7 hE7 L7 hb7; replace LL := hide L7; clear L7 hb7 hE7; simp only [Act.put, List.setIfInBounds_toArray, List.set_cons_succ, List.set_cons_zero])))
  go_ret
  exact ⟨_, _, rfl, reads_holds (l := [a]) ((unhide LL).get 1 rfl) ((unhide LL).lt _ (List.mem_of_getElem? (i := 1) rfl)), (unhide LL).fr.below⟩
set_option maxRecDepth 100000 in
theorem regs9 (t a b d : Int) (k : KK) (v : VV) (e : DD) (x g : Bool) (w : World) : Calls Tryd.prog 21 #[OP.agg ⟨9, t, a, b, d, k, v, e, x, g⟩] w (RegPost w [a]) := by
  have LL := hide (Hq.nil w [])
  simp only [oagg]
  go_enter Tryd.func21, Tryd.ntmps21
  go_wp2_with (first | go_skip | ((with_reducible show wpList _ _ _ _ _ _); first | ((refine bx 34 (OP.cs ⟨9, t, a, b, d, k, v, e, x, g⟩) (by rfl) rfl rfl rfl (Nat.succ_pos _) (unhide LL) ?_); intro X1 B1 hE1 L1 hb1; have hB1 := hide (Nat.le_trans (unhide LL).fr.size (Nat.le_of_eq hE1.symm)); replace LL := hide L1; clear L1 hb1 hE1; simp only [Act.put, List.setIfInBounds_toArray, List.set_cons_succ, List.set_cons_zero]) | ((refine rd (by rfl) (ex_load1 3 Tryd.isAgg3 rfl rfl ((unhide LL).get 0 rfl) rfl) ?_); simp only [Act.put, List.setIfInBounds_toArray, List.set_cons_succ, List.set_cons_zero]) | ((refine buildI1 a (by rfl) rfl rfl (unhide LL) ?_); intro X7 B7 hE7 L7 hb7; replace LL := hide L7; clear L7 hb7 hE7; simp only [Act.put, List.setIfInBounds_toArray, List.set_cons_succ, List.set_cons_zero])))
  go_ret
  exact ⟨_, _, rfl, reads_holds (l := [a]) ((unhide LL).get 1 rfl) ((unhide LL).lt _ (List.mem_of_getElem? (i := 1) rfl)), (unhide LL).fr.below⟩
set_option maxRecDepth 100000 in
theorem regs10 (t a b d : Int) (k : KK) (v : VV) (e : DD) (x g : Bool) (w : World) : Calls Tryd.prog 21 #[OP.agg ⟨10, t, a, b, d, k, v, e, x, g⟩] w (RegPost w [a]) := by
  have LL := hide (Hq.nil w [])
  simp only [oagg]
  go_enter Tryd.func21, Tryd.ntmps21
  go_wp2_with (first | go_skip | ((with_reducible show wpList _ _ _ _ _ _); first | ((refine bx 34 (OP.cs ⟨10, t, a, b, d, k, v, e, x, g⟩) (by rfl) rfl rfl rfl (Nat.succ_pos _) (unhide LL) ?_); intro X1 B1 hE1 L1 hb1; have hB1 := hide (Nat.le_trans (unhide LL).fr.size (Nat.le_of_eq hE1.symm)); replace LL := hide L1; clear L1 hb1 hE1; simp only [Act.put, List.setIfInBounds_toArray, List.set_cons_succ, List.set_cons_zero]) | ((refine rd (by rfl) (ex_load1 3 Tryd.isAgg3 rfl rfl ((unhide LL).get 0 rfl) rfl) ?_); simp only [Act.put, List.setIfInBounds_toArray, List.set_cons_succ, List.set_cons_zero]) | ((refine buildI1 a (by rfl) rfl rfl (unhide LL) ?_); intro X7 B7 hE7 L7 hb7; replace LL := hide L7; clear L7 hb7 hE7; simp only [Act.put, List.setIfInBounds_toArray, List.set_cons_succ, List.set_cons_zero])))
  go_ret
  exact ⟨_, _, rfl, reads_holds (l := [a]) ((unhide LL).get 1 rfl) ((unhide LL).lt _ (List.mem_of_getElem? (i := 1) rfl)), (unhide LL).fr.below⟩
set_option maxRecDepth 100000 in
theorem regs11 (t a b d : Int) (k : KK) (v : VV) (e : DD) (x g : Bool) (w : World) : Calls Tryd.prog 21 #[OP.agg ⟨11, t, a, b, d, k, v, e, x, g⟩] w (RegPost w [a, b]) := by
  have LL := hide (Hq.nil w [])
  simp only [oagg]
  go_enter Tryd.func21, Tryd.ntmps21
  go_wp2_with (first | go_skip | ((with_reducible show wpList _ _ _ _ _ _); first | ((refine bx 34 (OP.cs ⟨11, t, a, b, d, k, v, e, x, g⟩) (by rfl) rfl rfl rfl (Nat.succ_pos _) (unhide LL) ?_); intro X1 B1 hE1 L1 hb1; have hB1 := hide (Nat.le_trans (unhide LL).fr.size (Nat.le_of_eq hE1.symm)); replace LL := hide L1; clear L1 hb1 hE1; simp only [Act.put, List.setIfInBounds_toArray, List.set_cons_succ, List.set_cons_zero]) | ((refine rd (by rfl) (ex_load1 3 Tryd.isAgg3 rfl rfl ((unhide LL).get 0 rfl) rfl) ?_); simp only [Act.put, List.setIfInBounds_toArray, List.set_cons_succ, List.set_cons_zero]) | ((refine buildI2 a b (by rfl) rfl rfl rfl (unhide LL) ?_); intro X7 B7 hE7 L7 hb7; replace LL := hide L7; clear L7 hb7 hE7; simp only [Act.put, List.setIfInBounds_toArray, List.set_cons_succ, List.set_cons_zero])))
  go_ret
  exact ⟨_, _, rfl, reads_holds (l := [a, b]) ((unhide LL).get 1 rfl) ((unhide LL).lt _ (List.mem_of_getElem? (i := 1) rfl)), (unhide LL).fr.below⟩
set_option maxRecDepth 100000 in
theorem regs12 (t a b d : Int) (k : KK) (v : VV) (e : DD) (x g : Bool) (w : World) : Calls Tryd.prog 21 #[OP.agg ⟨12, t, a, b, d, k, v, e, x, g⟩] w (RegPost w [a, b]) := by
  have LL := hide (Hq.nil w [])
  simp only [oagg]
  go_enter Tryd.func21, Tryd.ntmps21
  go_wp2_with (first | go_skip | ((with_reducible show wpList _ _ _ _ _ _); first | ((refine bx 34 (OP.cs ⟨12, t, a, b, d, k, v, e, x, g⟩) (by rfl) rfl rfl rfl (Nat.succ_pos _) (unhide LL) ?_); intro X1 B1 hE1 L1 hb1; have hB1 := hide (Nat.le_trans (unhide LL).fr.size (Nat.le_of_eq hE1.symm)); replace LL := hide L1; clear L1 hb1 hE1; simp only [Act.put, List.setIfInBounds_toArray, List.set_cons_succ, List.set_cons_zero]) | ((refine rd (by rfl) (ex_load1 3 Tryd.isAgg3 rfl rfl ((unhide LL).get 0 rfl) rfl) ?_); simp only [Act.put, List.setIfInBounds_toArray, List.set_cons_succ, List.set_cons_zero]) | ((refine buildI2 a b (by rfl) rfl rfl rfl (unhide LL) ?_); intro X7 B7 hE7 L7 hb7; replace LL := hide L7; clear L7 hb7 hE7; simp only [Act.put, List.setIfInBounds_toArray, List.set_cons_succ, List.set_cons_zero])))
  go_ret
  exact ⟨_, _, rfl, reads_holds (l := [a, b]) ((unhide LL).get 1 rfl) ((unhide LL).lt _ (List.mem_of_getElem? (i := 1) rfl)), (unhide LL).fr.below⟩
set_option maxRecDepth 100000 in
theorem regs13 (t a b d : Int) (k : KK) (v : VV) (e : DD) (x g : Bool) (w : World) : Calls Tryd.prog 21 #[OP.agg ⟨13, t, a, b, d, k, v, e, x, g⟩] w (RegPost w [a]) := by
  have LL := hide (Hq.nil w [])
  simp only [oagg]
  go_enter Tryd.func21, Tryd.ntmps21
  go_wp2_with (first | go_skip | ((with_reducible show wpList _ _ _ _ _ _); first | ((refine bx 34 (OP.cs ⟨13, t, a, b, d, k, v, e, x, g⟩) (by rfl) rfl rfl rfl (Nat.succ_pos _) (unhide LL) ?_); intro X1 B1 hE1 L1 hb1; have hB1 := hide (Nat.le_trans (unhide LL).fr.size (Nat.le_of_eq hE1.symm)); replace LL := hide L1; clear L1 hb1 hE1; simp only [Act.put, List.setIfInBounds_toArray, List.set_cons_succ, List.set_cons_zero]) | ((refine rd (by rfl) (ex_load1 3 Tryd.isAgg3 rfl rfl ((unhide LL).get 0 rfl) rfl) ?_); simp only [Act.put, List.setIfInBounds_toArray, List.set_cons_succ, List.set_cons_zero]) | ((refine buildI1 a (by rfl) rfl rfl (unhide LL) ?_); intro X7 B7 hE7 L7 hb7; replace LL := hide L7; clear L7 hb7 hE7; simp only [Act.put, List.setIfInBounds_toArray, List.set_cons_succ, List.set_cons_zero])))
  go_ret
  exact ⟨_, _, rfl, reads_holds (l := [a]) ((unhide LL).get 1 rfl) ((unhide LL).lt _ (List.mem_of_getElem? (i := 1) rfl)), (unhide LL).fr.below⟩
set_option maxRecDepth 100000 in
theorem regs14 (t a b d : Int) (k : KK) (v : VV) (e : DD) (x g : Bool) (w : World) : Calls Tryd.prog 21 #[OP.agg ⟨14, t, a, b, d, k, v, e, x, g⟩] w (RegPost w [a]) := by
  have LL := hide (Hq.nil w [])
  simp only [oagg]
  go_enter Tryd.func21, Tryd.ntmps21
  go_wp2_with (first | go_skip | ((with_reducible show wpList _ _ _ _ _ _); first | ((refine bx 34 (OP.cs ⟨14, t, a, b, d, k, v, e, x, g⟩) (by rfl) rfl rfl rfl (Nat.succ_pos _) (unhide LL) ?_); intro X1 B1 hE1 L1 hb1; have hB1 := hide (Nat.le_trans (unhide LL).fr.size (Nat.le_of_eq hE1.symm)); replace LL := hide L1; clear L1 hb1 hE1; simp only [Act.put, List.setIfInBounds_toArray, List.set_cons_succ, List.set_cons_zero]) | ((refine rd (by rfl) (ex_load1 3 Tryd.isAgg3 rfl rfl ((unhide LL).get 0 rfl) rfl) ?_); simp only [Act.put, List.setIfInBounds_toArray, List.set_cons_succ, List.set_cons_zero]) | ((refine buildI1 a (by rfl) rfl rfl (unhide LL) ?_); intro X7 B7 hE7 L7 hb7; replace LL := hide L7; clear L7 hb7 hE7; simp only [Act.put, List.setIfInBounds_toArray, List.set_cons_succ, List.set_cons_zero])))
  go_ret
  exact ⟨_, _, rfl, reads_holds (l := [a]) ((unhide LL).get 1 rfl) ((unhide LL).lt _ (List.mem_of_getElem? (i := 1) rfl)), (unhide LL).fr.below⟩
set_option maxRecDepth 100000 in
theorem regs15 (t a b d : Int) (k : KK) (v : VV) (e : DD) (x g : Bool) (w : World) : Calls Tryd.prog 21 #[OP.agg ⟨15, t, a, b, d, k, v, e, x, g⟩] w (RegPost w [a]) := by
  have LL := hide (Hq.nil w [])
  simp only [oagg]
  go_enter Tryd.func21, Tryd.ntmps21
  go_wp2_with (first | go_skip | ((with_reducible show wpList _ _ _ _ _ _); first | ((refine bx 34 (OP.cs ⟨15, t, a, b, d, k, v, e, x, g⟩) (by rfl) rfl rfl rfl (Nat.succ_pos _) (unhide LL) ?_); intro X1 B1 hE1 L1 hb1; have hB1 := hide (Nat.le_trans (unhide LL).fr.size (Nat.le_of_eq hE1.symm)); replace LL := hide L1; clear L1 hb1 hE1; simp only [Act.put, List.setIfInBounds_toArray, List.set_cons_succ, List.set_cons_zero]) | ((refine rd (by rfl) (ex_load1 3 Tryd.isAgg3 rfl rfl ((unhide LL).get 0 rfl) rfl) ?_); simp only [Act.put, List.setIfInBounds_toArray, List.set_cons_succ, List.set_cons_zero]) | ((refine buildI1 a (by rfl) rfl rfl (unhide LL) ?_); intro X7 B7 hE7 L7 hb7; replace LL := hide L7; clear L7 hb7 hE7; simp only [Act.put, List.setIfInBounds_toArray, List.set_cons_succ, List.set_cons_zero])))
  go_ret
  exact ⟨_, _, rfl, reads_holds (l := [a]) ((unhide LL).get 1 rfl) ((unhide LL).lt _ (List.mem_of_getElem? (i := 1) rfl)), (unhide LL).fr.below⟩
set_option maxRecDepth 100000 in
theorem regs16 (t a b d : Int) (k : KK) (v : VV) (e : DD) (x g : Bool) (w : World) : Calls Tryd.prog 21 #[OP.agg ⟨16, t, a, b, d, k, v, e, x, g⟩] w (RegPost w [a]) := by
  have LL := hide (Hq.nil w [])
  simp only [oagg]
  go_enter Tryd.func21, Tryd.ntmps21
  go_wp2_with (first | go_skip | ((with_reducible show wpList _ _ _ _ _ _); first | ((refine bx 34 (OP.cs ⟨16, t, a, b, d, k, v, e, x, g⟩) (by rfl) rfl rfl rfl (Nat.succ_pos _) (unhide LL) ?_); intro X1 B1 hE1 L1 hb1; have hB1 := hide (Nat.le_trans (unhide LL).fr.size (Nat.le_of_eq hE1.symm)); replace LL := hide L1; clear L1 hb1 hE1; simp only [Act.put, List.setIfInBounds_toArray, List.set_cons_succ, List.set_cons_zero]) | ((refine rd (by rfl) (ex_load1 3 Tryd.isAgg3 rfl rfl ((unhide LL).get 0 rfl) rfl) ?_); simp only [Act.put, List.setIfInBounds_toArray, List.set_cons_succ, List.set_cons_zero]) | ((refine buildI1 a (by rfl) rfl rfl (unhide LL) ?_); intro X7 B7 hE7 L7 hb7; replace LL := hide L7; clear L7 hb7 hE7; simp only [Act.put, List.setIfInBounds_toArray, List.set_cons_succ, List.set_cons_zero])))
  go_ret
  exact ⟨_, _, rfl, reads_holds (l := [a]) ((unhide LL).get 1 rfl) ((unhide LL).lt _ (List.mem_of_getElem? (i := 1) rfl)), (unhide LL).fr.below⟩
set_option maxRecDepth 100000 in
theorem regs17 (t a b d : Int) (k : KK) (v : VV) (e : DD) (x g : Bool) (w : World) : Calls Tryd.prog 21 #[OP.agg ⟨17, t, a, b, d, k, v, e, x, g⟩] w (RegPost w [a, b]) := by
  have LL := hide (Hq.nil w [])
  simp only [oagg]
  go_enter Tryd.func21, Tryd.ntmps21
  go_wp2_with (first | go_skip | ((with_reducible show wpList _ _ _ _ _ _); first | ((refine bx 34 (OP.cs ⟨17, t, a, b, d, k, v, e, x, g⟩) (by rfl) rfl rfl rfl (Nat.succ_pos _) (unhide LL) ?_); intro X1 B1 hE1 L1 hb1; have hB1 := hide (Nat.le_trans (unhide LL).fr.size (Nat.le_of_eq hE1.symm)); replace LL := hide L1; clear L1 hb1 hE1; simp only [Act.put, List.setIfInBounds_toArray, List.set_cons_succ, List.set_cons_zero]) | ((refine rd (by rfl) (ex_load1 3 Tryd.isAgg3 rfl rfl ((unhide LL).get 0 rfl) rfl) ?_); simp only [Act.put, List.setIfInBounds_toArray, List.set_cons_succ, List.set_cons_zero]) | ((refine buildI2 a b (by rfl) rfl rfl rfl (unhide LL) ?_); intro X7 B7 hE7 L7 hb7; replace LL := hide L7; clear L7 hb7 hE7; simp only [Act.put, List.setIfInBounds_toArray, List.set_cons_succ, List.set_cons_zero])))
  go_ret
  exact ⟨_, _, rfl, reads_holds (l := [a, b]) ((unhide LL).get 1 rfl) ((unhide LL).lt _ (List.mem_of_getElem? (i := 1) rfl)), (unhide LL).fr.below⟩
set_option maxRecDepth 100000 in
theorem regs18 (t a b d : Int) (k : KK) (v : VV) (e : DD) (x g : Bool) (w : World) : Calls Tryd.prog 21 #[OP.agg ⟨18, t, a, b, d, k, v, e, x, g⟩] w (RegPost w [a]) := by
  have LL := hide (Hq.nil w [])
  simp only [oagg]
  go_enter Tryd.func21, Tryd.ntmps21
  go_wp2_with (first | go_skip | ((with_reducible show wpList _ _ _ _ _ _); first | ((refine bx 34 (OP.cs ⟨18, t, a, b, d, k, v, e, x, g⟩) (by rfl) rfl rfl rfl (Nat.succ_pos _) (unhide LL) ?_); intro X1 B1 hE1 L1 hb1; have hB1 := hide (Nat.le_trans (unhide LL).fr.size (Nat.le_of_eq hE1.symm)); replace LL := hide L1; clear L1 hb1 hE1; simp only [Act.put, List.setIfInBounds_toArray, List.set_cons_succ, List.set_cons_zero]) | ((refine rd (by rfl) (ex_load1 3 Tryd.isAgg3 rfl rfl ((unhide LL).get 0 rfl) rfl) ?_); simp only [Act.put, List.setIfInBounds_toArray, List.set_cons_succ, List.set_cons_zero]) | ((refine buildI1 a (by rfl) rfl rfl (unhide LL) ?_); intro X7 B7 hE7 L7 hb7; replace LL := hide L7; clear L7 hb7 hE7; simp only [Act.put, List.setIfInBounds_toArray, List.set_cons_succ, List.set_cons_zero])))
  go_ret
  exact ⟨_, _, rfl, reads_holds (l := [a]) ((unhide LL).get 1 rfl) ((unhide LL).lt _ (List.mem_of_getElem? (i := 1) rfl)), (unhide LL).fr.below⟩
set_option maxRecDepth 100000 in
theorem regs19 (t a b d : Int) (k : KK) (v : VV) (e : DD) (x g : Bool) (w : World) : Calls Tryd.prog 21 #[OP.agg ⟨19, t, a, b, d, k, v, e, x, g⟩] w (RegPost w [a]) := by
  have LL := hide (Hq.nil w [])
  simp only [oagg]
  go_enter Tryd.func21, Tryd.ntmps21
  go_wp2_with (first | go_skip | ((with_reducible show wpList _ _ _ _ _ _); first | ((refine bx 34 (OP.cs ⟨19, t, a, b, d, k, v, e, x, g⟩) (by rfl) rfl rfl rfl (Nat.succ_pos _) (unhide LL) ?_); intro X1 B1 hE1 L1 hb1; have hB1 := hide (Nat.le_trans (unhide LL).fr.size (Nat.le_of_eq hE1.symm)); replace LL := hide L1; clear L1 hb1 hE1; simp only [Act.put, List.setIfInBounds_toArray, List.set_cons_succ, List.set_cons_zero]) | ((refine rd (by rfl) (ex_load1 3 Tryd.isAgg3 rfl rfl ((unhide LL).get 0 rfl) rfl) ?_); simp only [Act.put, List.setIfInBounds_toArray, List.set_cons_succ, List.set_cons_zero]) | ((refine buildI1 a (by rfl) rfl rfl (unhide LL) ?_); intro X7 B7 hE7 L7 hb7; replace LL := hide L7; clear L7 hb7 hE7; simp only [Act.put, List.setIfInBounds_toArray, List.set_cons_succ, List.set_cons_zero])))
  go_ret
  exact ⟨_, _, rfl, reads_holds (l := [a]) ((unhide LL).get 1 rfl) ((unhide LL).lt _ (List.mem_of_getElem? (i := 1) rfl)), (unhide LL).fr.below⟩
set_option maxRecDepth 100000 in
theorem regs20 (t a b d : Int) (k : KK) (v : VV) (e : DD) (x g : Bool) (w : World) : Calls Tryd.prog 21 #[OP.agg ⟨20, t, a, b, d, k, v, e, x, g⟩] w (RegPost w [a, b, d]) := by
  have LL := hide (Hq.nil w [])
  simp only [oagg]
  go_enter Tryd.func21, Tryd.ntmps21
  go_wp2_with (first | go_skip | ((with_reducible show wpList _ _ _ _ _ _); first | ((refine bx 34 (OP.cs ⟨20, t, a, b, d, k, v, e, x, g⟩) (by rfl) rfl rfl rfl (Nat.succ_pos _) (unhide LL) ?_); intro X1 B1 hE1 L1 hb1; have hB1 := hide (Nat.le_trans (unhide LL).fr.size (Nat.le_of_eq hE1.symm)); replace LL := hide L1; clear L1 hb1 hE1; simp only [Act.put, List.setIfInBounds_toArray, List.set_cons_succ, List.set_cons_zero]) | ((refine rd (by rfl) (ex_load1 3 Tryd.isAgg3 rfl rfl ((unhide LL).get 0 rfl) rfl) ?_); simp only [Act.put, List.setIfInBounds_toArray, List.set_cons_succ, List.set_cons_zero]) | ((refine buildI3 a b d (by rfl) rfl rfl rfl rfl (unhide LL) ?_); intro X7 B7 hE7 L7 hb7; replace LL := hide L7; clear L7 hb7 hE7; simp only [Act.put, List.setIfInBounds_toArray, List.set_cons_succ, List.set_cons_zero])))
  go_ret
  exact ⟨_, _, rfl, reads_holds (l := [a, b, d]) ((unhide LL).get 1 rfl) ((unhide LL).lt _ (List.mem_of_getElem? (i := 1) rfl)), (unhide LL).fr.below⟩
set_option maxRecDepth 100000 in
theorem regs21 (t a b d : Int) (k : KK) (v : VV) (e : DD) (x g : Bool) (w : World) : Calls Tryd.prog 21 #[OP.agg ⟨21, t, a, b, d, k, v, e, x, g⟩] w (RegPost w [a, b]) := by
  have LL := hide (Hq.nil w [])
  simp only [oagg]
  go_enter Tryd.func21, Tryd.ntmps21
  go_wp2_with (first | go_skip | ((with_reducible show wpList _ _ _ _ _ _); first | ((refine bx 34 (OP.cs ⟨21, t, a, b, d, k, v, e, x, g⟩) (by rfl) rfl rfl rfl (Nat.succ_pos _) (unhide LL) ?_); intro X1 B1 hE1 L1 hb1; have hB1 := hide (Nat.le_trans (unhide LL).fr.size (Nat.le_of_eq hE1.symm)); replace LL := hide L1; clear L1 hb1 hE1; simp only [Act.put, List.setIfInBounds_toArray, List.set_cons_succ, List.set_cons_zero]) | ((refine rd (by rfl) (ex_load1 3 Tryd.isAgg3 rfl rfl ((unhide LL).get 0 rfl) rfl) ?_); simp only [Act.put, List.setIfInBounds_toArray, List.set_cons_succ, List.set_cons_zero]) | ((refine buildI2 a b (by rfl) rfl rfl rfl (unhide LL) ?_); intro X7 B7 hE7 L7 hb7; replace LL := hide L7; clear L7 hb7 hE7; simp only [Act.put, List.setIfInBounds_toArray, List.set_cons_succ, List.set_cons_zero])))
  go_ret
  exact ⟨_, _, rfl, reads_holds (l := [a, b]) ((unhide LL).get 1 rfl) ((unhide LL).lt _ (List.mem_of_getElem? (i := 1) rfl)), (unhide LL).fr.below⟩
set_option maxRecDepth 100000 in
theorem regs22 (t a b d : Int) (k : KK) (v : VV) (e : DD) (x g : Bool) (w : World) : Calls Tryd.prog 21 #[OP.agg ⟨22, t, a, b, d, k, v, e, x, g⟩] w (RegPost w [a]) := by
  have LL := hide (Hq.nil w [])
  simp only [oagg]
  go_enter Tryd.func21, Tryd.ntmps21
  go_wp2_with (first | go_skip | ((with_reducible show wpList _ _ _ _ _ _); first | ((refine bx 34 (OP.cs ⟨22, t, a, b, d, k, v, e, x, g⟩) (by rfl) rfl rfl rfl (Nat.succ_pos _) (unhide LL) ?_); intro X1 B1 hE1 L1 hb1; have hB1 := hide (Nat.le_trans (unhide LL).fr.size (Nat.le_of_eq hE1.symm)); replace LL := hide L1; clear L1 hb1 hE1; simp only [Act.put, List.setIfInBounds_toArray, List.set_cons_succ, List.set_cons_zero]) | ((refine rd (by rfl) (ex_load1 3 Tryd.isAgg3 rfl rfl ((unhide LL).get 0 rfl) rfl) ?_); simp only [Act.put, List.setIfInBounds_toArray, List.set_cons_succ, List.set_cons_zero]) | ((refine buildI1 a (by rfl) rfl rfl (unhide LL) ?_); intro X7 B7 hE7 L7 hb7; replace LL := hide L7; clear L7 hb7 hE7; simp only [Act.put, List.setIfInBounds_toArray, List.set_cons_succ, List.set_cons_zero])))
  go_ret
  exact ⟨_, _, rfl, reads_holds (l := [a]) ((unhide LL).get 1 rfl) ((unhide LL).lt _ (List.mem_of_getElem? (i := 1) rfl)), (unhide LL).fr.below⟩
set_option maxRecDepth 100000 in
theorem regs23 (t a b d : Int) (k : KK) (v : VV) (e : DD) (x g : Bool) (w : World) : Calls Tryd.prog 21 #[OP.agg ⟨23, t, a, b, d, k, v, e, x, g⟩] w (RegPost w [a, b]) := by
  have LL := hide (Hq.nil w [])
  simp only [oagg]
  go_enter Tryd.func21, Tryd.ntmps21
  go_wp2_with (first | go_skip | ((with_reducible show wpList _ _ _ _ _ _); first | ((refine bx 34 (OP.cs ⟨23, t, a, b, d, k, v, e, x, g⟩) (by rfl) rfl rfl rfl (Nat.succ_pos _) (unhide LL) ?_); intro X1 B1 hE1 L1 hb1; have hB1 := hide (Nat.le_trans (unhide LL).fr.size (Nat.le_of_eq hE1.symm)); replace LL := hide L1; clear L1 hb1 hE1; simp only [Act.put, List.setIfInBounds_toArray, List.set_cons_succ, List.set_cons_zero]) | ((refine rd (by rfl) (ex_load1 3 Tryd.isAgg3 rfl rfl ((unhide LL).get 0 rfl) rfl) ?_); simp only [Act.put, List.setIfInBounds_toArray, List.set_cons_succ, List.set_cons_zero]) | ((refine buildI2 a b (by rfl) rfl rfl rfl (unhide LL) ?_); intro X7 B7 hE7 L7 hb7; replace LL := hide L7; clear L7 hb7 hE7; simp only [Act.put, List.setIfInBounds_toArray, List.set_cons_succ, List.set_cons_zero])))
  go_ret
  exact ⟨_, _, rfl, reads_holds (l := [a, b]) ((unhide LL).get 1 rfl) ((unhide LL).lt _ (List.mem_of_getElem? (i := 1) rfl)), (unhide LL).fr.below⟩
set_option maxRecDepth 100000 in
theorem regs24 (t a b d : Int) (k : KK) (v : VV) (e : DD) (x g : Bool) (w : World) : Calls Tryd.prog 21 #[OP.agg ⟨24, t, a, b, d, k, v, e, x, g⟩] w (RegPost w [a, b, d]) := by
  have LL := hide (Hq.nil w [])
  simp only [oagg]
  go_enter Tryd.func21, Tryd.ntmps21
  go_wp2_with (first | go_skip | ((with_reducible show wpList _ _ _ _ _ _); first | ((refine bx 34 (OP.cs ⟨24, t, a, b, d, k, v, e, x, g⟩) (by rfl) rfl rfl rfl (Nat.succ_pos _) (unhide LL) ?_); intro X1 B1 hE1 L1 hb1; have hB1 := hide (Nat.le_trans (unhide LL).fr.size (Nat.le_of_eq hE1.symm)); replace LL := hide L1; clear L1 hb1 hE1; simp only [Act.put, List.setIfInBounds_toArray, List.set_cons_succ, List.set_cons_zero]) | ((refine rd (by rfl) (ex_load1 3 Tryd.isAgg3 rfl rfl ((unhide LL).get 0 rfl) rfl) ?_); simp only [Act.put, List.setIfInBounds_toArray, List.set_cons_succ, List.set_cons_zero]) | ((refine buildI3 a b d (by rfl) rfl rfl rfl rfl (unhide LL) ?_); intro X7 B7 hE7 L7 hb7; replace LL := hide L7; clear L7 hb7 hE7; simp only [Act.put, List.setIfInBounds_toArray, List.set_cons_succ, List.set_cons_zero])))
  go_ret
  exact ⟨_, _, rfl, reads_holds (l := [a, b, d]) ((unhide LL).get 1 rfl) ((unhide LL).lt _ (List.mem_of_getElem? (i := 1) rfl)), (unhide LL).fr.below⟩
theorem regs_any (o : OP) (h1 : 1 ≤ o.c) (h2 : o.c ≤ 24) (w : World) : Calls Tryd.prog 21 #[o.agg] w (RegPost w (regL o)) := by
  obtain ⟨c, t, a, b, d, k, v, e, x, g⟩ := o
  dsimp only at h1 h2
  rcases codes h1 h2 with rfl | rfl | rfl | rfl | rfl | rfl | rfl | rfl | rfl | rfl | rfl | rfl | rfl | rfl | rfl | rfl | rfl | rfl | rfl | rfl | rfl | rfl | rfl | rfl
  · exact regs1 t a b d k v e x g w
  · exact regs2 t a b d k v e x g w
  · exact regs3 t a b d k v e x g w
  · exact regs4 t a b d k v e x g w
  · exact regs5 t a b d k v e x g w
  · exact regs6 t a b d k v e x g w
  · exact regs7 t a b d k v e x g w
  · exact regs8 t a b d k v e x g w
  · exact regs9 t a b d k v e x g w
  · exact regs10 t a b d k v e x g w
  · exact regs11 t a b d k v e x g w
  · exact regs12 t a b d k v e x g w
  · exact regs13 t a b d k v e x g w
  · exact regs14 t a b d k v e x g w
  · exact regs15 t a b d k v e x g w
  · exact regs16 t a b d k v e x g w
  · exact regs17 t a b d k v e x g w
  · exact regs18 t a b d k v e x g w
  · exact regs19 t a b d k v e x g w
  · exact regs20 t a b d k v e x g w
  · exact regs21 t a b d k v e x g w
  · exact regs22 t a b d k v e x g w
  · exact regs23 t a b d k v e x g w
  · exact regs24 t a b d k v e x g w
set_option maxRecDepth 100000 in
theorem rest1 (t a b d : Int) (k : KK) (v : VV) (e : DD) (x g : Bool) (w : World) (hT : Lib.Utf8Tabs 1 2 w) : Calls Tryd.prog 24 #[OP.agg ⟨1, t, a, b, d, k, v, e, x, g⟩] w fun e' w' => e' = .returned (.bool (v.good)) ∧ Below w.heap.size w w' := by
  have LL := hide (Hq.nil w [])
  have HC := hide (fun w hT => check_any v w hT)
  have HT := hide hT
  clear hT
  simp only [oagg, vagg] at *
  cases hg : v.good
  · rw [hg] at HC
    clear hg
    go_enter Tryd.func24, Tryd.ntmps24
    go_wp2_with (first | go_skip | ((with_reducible show wpList _ _ _ _ _ _); first | ((refine bx 34 (OP.cs ⟨1, t, a, b, d, k, v, e, x, g⟩) (by rfl) rfl rfl rfl (Nat.succ_pos _) (unhide LL) ?_); intro X1 B1 hE1 L1 hb1; have hB1 := hide (Nat.le_trans (unhide LL).fr.size (Nat.le_of_eq hE1.symm)); replace LL := hide L1; clear L1 hb1 hE1; simp only [Act.put, List.setIfInBounds_toArray, List.set_cons_succ, List.set_cons_zero]) | ((refine rd (by rfl) (ex_load1 3 Tryd.isAgg3 rfl rfl ((unhide LL).get 0 rfl) rfl) ?_); simp only [Act.put, List.setIfInBounds_toArray, List.set_cons_succ, List.set_cons_zero]) | ((refine rd (by rfl) (ex_loadN (vs := v.cs) 27 5 rwV szV rfl rfl ((unhide LL).get 0 rfl) rfl rfl) ?_); simp only [Act.put, List.setIfInBounds_toArray, List.set_cons_succ, List.set_cons_zero])))
    refine (unhide HC _ (tabs_below (unhide HT) (unhide LL).fr.below)).mono ?_
    rintro e0 X3 ⟨rfl, hb3⟩
    replace LL := hide ((unhide LL).on hb3)
    clear hb3
    simp only [errB]
    go_wp2_with (first | go_skip | ((with_reducible show wpList _ _ _ _ _ _); first | fail))
    go_ret
    exact ⟨rfl, (unhide LL).fr.below⟩
  · rw [hg] at HC
    clear hg
    go_enter Tryd.func24, Tryd.ntmps24
    go_wp2_with (first | go_skip | ((with_reducible show wpList _ _ _ _ _ _); first | ((refine bx 34 (OP.cs ⟨1, t, a, b, d, k, v, e, x, g⟩) (by rfl) rfl rfl rfl (Nat.succ_pos _) (unhide LL) ?_); intro X1 B1 hE1 L1 hb1; have hB1 := hide (Nat.le_trans (unhide LL).fr.size (Nat.le_of_eq hE1.symm)); replace LL := hide L1; clear L1 hb1 hE1; simp only [Act.put, List.setIfInBounds_toArray, List.set_cons_succ, List.set_cons_zero]) | ((refine rd (by rfl) (ex_load1 3 Tryd.isAgg3 rfl rfl ((unhide LL).get 0 rfl) rfl) ?_); simp only [Act.put, List.setIfInBounds_toArray, List.set_cons_succ, List.set_cons_zero]) | ((refine rd (by rfl) (ex_loadN (vs := v.cs) 27 5 rwV szV rfl rfl ((unhide LL).get 0 rfl) rfl rfl) ?_); simp only [Act.put, List.setIfInBounds_toArray, List.set_cons_succ, List.set_cons_zero])))
    refine (unhide HC _ (tabs_below (unhide HT) (unhide LL).fr.below)).mono ?_
    rintro e0 X3 ⟨rfl, hb3⟩
    replace LL := hide ((unhide LL).on hb3)
    clear hb3
    simp only [errB]
    go_wp2_with (first | go_skip | ((with_reducible show wpList _ _ _ _ _ _); first | fail))
    go_ret
    exact ⟨rfl, (unhide LL).fr.below⟩
set_option maxRecDepth 100000 in
theorem rest2 (t a b d : Int) (k : KK) (v : VV) (e : DD) (x g : Bool) (w : World) : Calls Tryd.prog 24 #[OP.agg ⟨2, t, a, b, d, k, v, e, x, g⟩] w fun e' w' => e' = .returned (.bool (true)) ∧ Below w.heap.size w w' := by
  have LL := hide (Hq.nil w [])
  simp only [oagg] at *
  go_enter Tryd.func24, Tryd.ntmps24
  go_wp2_with (first | go_skip | ((with_reducible show wpList _ _ _ _ _ _); first | ((refine bx 34 (OP.cs ⟨2, t, a, b, d, k, v, e, x, g⟩) (by rfl) rfl rfl rfl (Nat.succ_pos _) (unhide LL) ?_); intro X1 B1 hE1 L1 hb1; have hB1 := hide (Nat.le_trans (unhide LL).fr.size (Nat.le_of_eq hE1.symm)); replace LL := hide L1; clear L1 hb1 hE1; simp only [Act.put, List.setIfInBounds_toArray, List.set_cons_succ, List.set_cons_zero]) | ((refine rd (by rfl) (ex_load1 3 Tryd.isAgg3 rfl rfl ((unhide LL).get 0 rfl) rfl) ?_); simp only [Act.put, List.setIfInBounds_toArray, List.set_cons_succ, List.set_cons_zero])))
  go_ret
  exact ⟨rfl, (unhide LL).fr.below⟩
set_option maxRecDepth 100000 in
theorem rest3 (t a b d : Int) (k : KK) (v : VV) (e : DD) (x g : Bool) (w : World) : Calls Tryd.prog 24 #[OP.agg ⟨3, t, a, b, d, k, v, e, x, g⟩] w fun e' w' => e' = .returned (.bool (true)) ∧ Below w.heap.size w w' := by
  have LL := hide (Hq.nil w [])
  simp only [oagg] at *
  go_enter Tryd.func24, Tryd.ntmps24
  go_wp2_with (first | go_skip | ((with_reducible show wpList _ _ _ _ _ _); first | ((refine bx 34 (OP.cs ⟨3, t, a, b, d, k, v, e, x, g⟩) (by rfl) rfl rfl rfl (Nat.succ_pos _) (unhide LL) ?_); intro X1 B1 hE1 L1 hb1; have hB1 := hide (Nat.le_trans (unhide LL).fr.size (Nat.le_of_eq hE1.symm)); replace LL := hide L1; clear L1 hb1 hE1; simp only [Act.put, List.setIfInBounds_toArray, List.set_cons_succ, List.set_cons_zero]) | ((refine rd (by rfl) (ex_load1 3 Tryd.isAgg3 rfl rfl ((unhide LL).get 0 rfl) rfl) ?_); simp only [Act.put, List.setIfInBounds_toArray, List.set_cons_succ, List.set_cons_zero])))
  go_ret
  exact ⟨rfl, (unhide LL).fr.below⟩
set_option maxRecDepth 100000 in
theorem rest4 (t a b d : Int) (k : KK) (v : VV) (e : DD) (x g : Bool) (w : World) : Calls Tryd.prog 24 #[OP.agg ⟨4, t, a, b, d, k, v, e, x, g⟩] w fun e' w' => e' = .returned (.bool (decide (0 ≤ a))) ∧ Below w.heap.size w w' := by
  have LL := hide (Hq.nil w [])
  simp only [oagg] at *
  generalize hr : decide (0 ≤ a) = r
  go_enter Tryd.func24, Tryd.ntmps24
  go_wp2_with (first | go_skip | ((with_reducible show wpList _ _ _ _ _ _); first | ((refine bx 34 (OP.cs ⟨4, t, a, b, d, k, v, e, x, g⟩) (by rfl) rfl rfl rfl (Nat.succ_pos _) (unhide LL) ?_); intro X1 B1 hE1 L1 hb1; have hB1 := hide (Nat.le_trans (unhide LL).fr.size (Nat.le_of_eq hE1.symm)); replace LL := hide L1; clear L1 hb1 hE1; simp only [Act.put, List.setIfInBounds_toArray, List.set_cons_succ, List.set_cons_zero]) | ((refine rd (by rfl) (ex_load1 3 Tryd.isAgg3 rfl rfl ((unhide LL).get 0 rfl) rfl) ?_); simp only [Act.put, List.setIfInBounds_toArray, List.set_cons_succ, List.set_cons_zero]) | ((refine rd (by rfl) (ex_geI rfl rfl rfl hr) ?_); simp only [Act.put, List.setIfInBounds_toArray, List.set_cons_succ, List.set_cons_zero])))
  go_ret
  exact ⟨rfl, (unhide LL).fr.below⟩
set_option maxRecDepth 100000 in
theorem rest5 (t a b d : Int) (k : KK) (v : VV) (e : DD) (x g : Bool) (w : World) : Calls Tryd.prog 24 #[OP.agg ⟨5, t, a, b, d, k, v, e, x, g⟩] w fun e' w' => e' = .returned (.bool (true)) ∧ Below w.heap.size w w' := by
  have LL := hide (Hq.nil w [])
  simp only [oagg] at *
  go_enter Tryd.func24, Tryd.ntmps24
  go_wp2_with (first | go_skip | ((with_reducible show wpList _ _ _ _ _ _); first | ((refine bx 34 (OP.cs ⟨5, t, a, b, d, k, v, e, x, g⟩) (by rfl) rfl rfl rfl (Nat.succ_pos _) (unhide LL) ?_); intro X1 B1 hE1 L1 hb1; have hB1 := hide (Nat.le_trans (unhide LL).fr.size (Nat.le_of_eq hE1.symm)); replace LL := hide L1; clear L1 hb1 hE1; simp only [Act.put, List.setIfInBounds_toArray, List.set_cons_succ, List.set_cons_zero]) | ((refine rd (by rfl) (ex_load1 3 Tryd.isAgg3 rfl rfl ((unhide LL).get 0 rfl) rfl) ?_); simp only [Act.put, List.setIfInBounds_toArray, List.set_cons_succ, List.set_cons_zero])))
  go_ret
  exact ⟨rfl, (unhide LL).fr.below⟩
set_option maxRecDepth 100000 in
theorem rest6 (t a b d : Int) (k : KK) (v : VV) (e : DD) (x g : Bool) (w : World) : Calls Tryd.prog 24 #[OP.agg ⟨6, t, a, b, d, k, v, e, x, g⟩] w fun e' w' => e' = .returned (.bool (true)) ∧ Below w.heap.size w w' := by
  have LL := hide (Hq.nil w [])
  simp only [oagg] at *
  go_enter Tryd.func24, Tryd.ntmps24
  go_wp2_with (first | go_skip | ((with_reducible show wpList _ _ _ _ _ _); first | ((refine bx 34 (OP.cs ⟨6, t, a, b, d, k, v, e, x, g⟩) (by rfl) rfl rfl rfl (Nat.succ_pos _) (unhide LL) ?_); intro X1 B1 hE1 L1 hb1; have hB1 := hide (Nat.le_trans (unhide LL).fr.size (Nat.le_of_eq hE1.symm)); replace LL := hide L1; clear L1 hb1 hE1; simp only [Act.put, List.setIfInBounds_toArray, List.set_cons_succ, List.set_cons_zero]) | ((refine rd (by rfl) (ex_load1 3 Tryd.isAgg3 rfl rfl ((unhide LL).get 0 rfl) rfl) ?_); simp only [Act.put, List.setIfInBounds_toArray, List.set_cons_succ, List.set_cons_zero])))
  go_ret
  exact ⟨rfl, (unhide LL).fr.below⟩
set_option maxRecDepth 100000 in
theorem rest7 (t a b d : Int) (k : KK) (v : VV) (e : DD) (x g : Bool) (w : World) : Calls Tryd.prog 24 #[OP.agg ⟨7, t, a, b, d, k, v, e, x, g⟩] w fun e' w' => e' = .returned (.bool (true)) ∧ Below w.heap.size w w' := by
  have LL := hide (Hq.nil w [])
  simp only [oagg] at *
  go_enter Tryd.func24, Tryd.ntmps24
  go_wp2_with (first | go_skip | ((with_reducible show wpList _ _ _ _ _ _); first | ((refine bx 34 (OP.cs ⟨7, t, a, b, d, k, v, e, x, g⟩) (by rfl) rfl rfl rfl (Nat.succ_pos _) (unhide LL) ?_); intro X1 B1 hE1 L1 hb1; have hB1 := hide (Nat.le_trans (unhide LL).fr.size (Nat.le_of_eq hE1.symm)); replace LL := hide L1; clear L1 hb1 hE1; simp only [Act.put, List.setIfInBounds_toArray, List.set_cons_succ, List.set_cons_zero]) | ((refine rd (by rfl) (ex_load1 3 Tryd.isAgg3 rfl rfl ((unhide LL).get 0 rfl) rfl) ?_); simp only [Act.put, List.setIfInBounds_toArray, List.set_cons_succ, List.set_cons_zero])))
  go_ret
  exact ⟨rfl, (unhide LL).fr.below⟩
set_option maxRecDepth 100000 in
theorem rest8 (t a b d : Int) (k : KK) (v : VV) (e : DD) (x g : Bool) (w : World) : Calls Tryd.prog 24 #[OP.agg ⟨8, t, a, b, d, k, v, e, x, g⟩] w fun e' w' => e' = .returned (.bool (true)) ∧ Below w.heap.size w w' := by
  have LL := hide (Hq.nil w [])
  simp only [oagg] at *
  go_enter Tryd.func24, Tryd.ntmps24
  go_wp2_with (first | go_skip | ((with_reducible show wpList _ _ _ _ _ _); first | ((refine bx 34 (OP.cs ⟨8, t, a, b, d, k, v, e, x, g⟩) (by rfl) rfl rfl rfl (Nat.succ_pos _) (unhide LL) ?_); intro X1 B1 hE1 L1 hb1; have hB1 := hide (Nat.le_trans (unhide LL).fr.size (Nat.le_of_eq hE1.symm)); replace LL := hide L1; clear L1 hb1 hE1; simp only [Act.put, List.setIfInBounds_toArray, List.set_cons_succ, List.set_cons_zero]) | ((refine rd (by rfl) (ex_load1 3 Tryd.isAgg3 rfl rfl ((unhide LL).get 0 rfl) rfl) ?_); simp only [Act.put, List.setIfInBounds_toArray, List.set_cons_succ, List.set_cons_zero])))
  go_ret
  exact ⟨rfl, (unhide LL).fr.below⟩
set_option maxRecDepth 100000 in
theorem rest9 (t a b d : Int) (k : KK) (v : VV) (e : DD) (x g : Bool) (w : World) : Calls Tryd.prog 24 #[OP.agg ⟨9, t, a, b, d, k, v, e, x, g⟩] w fun e' w' => e' = .returned (.bool (decide (0 ≤ b))) ∧ Below w.heap.size w w' := by
  have LL := hide (Hq.nil w [])
  simp only [oagg] at *
  generalize hr : decide (0 ≤ b) = r
  go_enter Tryd.func24, Tryd.ntmps24
  go_wp2_with (first | go_skip | ((with_reducible show wpList _ _ _ _ _ _); first | ((refine bx 34 (OP.cs ⟨9, t, a, b, d, k, v, e, x, g⟩) (by rfl) rfl rfl rfl (Nat.succ_pos _) (unhide LL) ?_); intro X1 B1 hE1 L1 hb1; have hB1 := hide (Nat.le_trans (unhide LL).fr.size (Nat.le_of_eq hE1.symm)); replace LL := hide L1; clear L1 hb1 hE1; simp only [Act.put, List.setIfInBounds_toArray, List.set_cons_succ, List.set_cons_zero]) | ((refine rd (by rfl) (ex_load1 3 Tryd.isAgg3 rfl rfl ((unhide LL).get 0 rfl) rfl) ?_); simp only [Act.put, List.setIfInBounds_toArray, List.set_cons_succ, List.set_cons_zero]) | ((refine rd (by rfl) (ex_geI rfl rfl rfl hr) ?_); simp only [Act.put, List.setIfInBounds_toArray, List.set_cons_succ, List.set_cons_zero])))
  go_ret
  exact ⟨rfl, (unhide LL).fr.below⟩
set_option maxRecDepth 100000 in
theorem rest10 (t a b d : Int) (k : KK) (v : VV) (e : DD) (x g : Bool) (w : World) : Calls Tryd.prog 24 #[OP.agg ⟨10, t, a, b, d, k, v, e, x, g⟩] w fun e' w' => e' = .returned (.bool (true)) ∧ Below w.heap.size w w' := by
  have LL := hide (Hq.nil w [])
  simp only [oagg] at *
  go_enter Tryd.func24, Tryd.ntmps24
  go_wp2_with (first | go_skip | ((with_reducible show wpList _ _ _ _ _ _); first | ((refine bx 34 (OP.cs ⟨10, t, a, b, d, k, v, e, x, g⟩) (by rfl) rfl rfl rfl (Nat.succ_pos _) (unhide LL) ?_); intro X1 B1 hE1 L1 hb1; have hB1 := hide (Nat.le_trans (unhide LL).fr.size (Nat.le_of_eq hE1.symm)); replace LL := hide L1; clear L1 hb1 hE1; simp only [Act.put, List.setIfInBounds_toArray, List.set_cons_succ, List.set_cons_zero]) | ((refine rd (by rfl) (ex_load1 3 Tryd.isAgg3 rfl rfl ((unhide LL).get 0 rfl) rfl) ?_); simp only [Act.put, List.setIfInBounds_toArray, List.set_cons_succ, List.set_cons_zero])))
  go_ret
  exact ⟨rfl, (unhide LL).fr.below⟩
set_option maxRecDepth 100000 in
theorem rest11 (t a b d : Int) (k : KK) (v : VV) (e : DD) (x g : Bool) (w : World) : Calls Tryd.prog 24 #[OP.agg ⟨11, t, a, b, d, k, v, e, x, g⟩] w fun e' w' => e' = .returned (.bool (true)) ∧ Below w.heap.size w w' := by
  have LL := hide (Hq.nil w [])
  simp only [oagg] at *
  go_enter Tryd.func24, Tryd.ntmps24
  go_wp2_with (first | go_skip | ((with_reducible show wpList _ _ _ _ _ _); first | ((refine bx 34 (OP.cs ⟨11, t, a, b, d, k, v, e, x, g⟩) (by rfl) rfl rfl rfl (Nat.succ_pos _) (unhide LL) ?_); intro X1 B1 hE1 L1 hb1; have hB1 := hide (Nat.le_trans (unhide LL).fr.size (Nat.le_of_eq hE1.symm)); replace LL := hide L1; clear L1 hb1 hE1; simp only [Act.put, List.setIfInBounds_toArray, List.set_cons_succ, List.set_cons_zero]) | ((refine rd (by rfl) (ex_load1 3 Tryd.isAgg3 rfl rfl ((unhide LL).get 0 rfl) rfl) ?_); simp only [Act.put, List.setIfInBounds_toArray, List.set_cons_succ, List.set_cons_zero])))
  go_ret
  exact ⟨rfl, (unhide LL).fr.below⟩
set_option maxRecDepth 100000 in
theorem rest12 (t a b d : Int) (k : KK) (v : VV) (e : DD) (x g : Bool) (w : World) (hd : FD e) (hT : Lib.Utf8Tabs 1 2 w) : Calls Tryd.prog 24 #[OP.agg ⟨12, t, a, b, d, k, v, e, x, g⟩] w fun e' w' => e' = .returned (.bool (rgoodV e && !(x && accV e))) ∧ Below w.heap.size w w' := by
  have LL := hide (Hq.nil w [])
  have HC := hide (fun w hT => check12 e hd w hT)
  have HA := hide (accessor_any e)
  have HT := hide hT
  clear hT hd
  simp only [oagg, dagg, chk_good] at *
  cases hg : rgoodV e
  · simp only [hg] at HC
    clear hg
    go_enter Tryd.func24, Tryd.ntmps24
    go_wp2_with (first | go_skip | ((with_reducible show wpList _ _ _ _ _ _); first | ((refine bx 34 (OP.cs ⟨12, t, a, b, d, k, v, e, x, g⟩) (by rfl) rfl rfl rfl (Nat.succ_pos _) (unhide LL) ?_); intro X1 B1 hE1 L1 hb1; have hB1 := hide (Nat.le_trans (unhide LL).fr.size (Nat.le_of_eq hE1.symm)); replace LL := hide L1; clear L1 hb1 hE1; simp only [Act.put, List.setIfInBounds_toArray, List.set_cons_succ, List.set_cons_zero]) | ((refine rd (by rfl) (ex_load1 3 Tryd.isAgg3 rfl rfl ((unhide LL).get 0 rfl) rfl) ?_); simp only [Act.put, List.setIfInBounds_toArray, List.set_cons_succ, List.set_cons_zero]) | ((refine rd (by rfl) (ex_loadN (vs := e.cs) 32 18 rwD szD rfl rfl ((unhide LL).get 0 rfl) rfl rfl) ?_); simp only [Act.put, List.setIfInBounds_toArray, List.set_cons_succ, List.set_cons_zero]) | ((refine rd (by rfl) (ex_load1 4 Tryd.isAgg4 rfl rfl ((unhide LL).get 0 rfl) rfl) ?_); simp only [Act.put, List.setIfInBounds_toArray, List.set_cons_succ, List.set_cons_zero])))
    refine (unhide HC _ (tabs_below (unhide HT) (unhide LL).fr.below)).mono ?_
    rintro e0 X3 ⟨rfl, hb3⟩
    replace LL := hide ((unhide LL).on hb3)
    clear hb3
    simp only [Bool.false_eq_true, if_false]
    go_wp2_with (first | go_skip | ((with_reducible show wpList _ _ _ _ _ _); first | ((refine bx 34 (OP.cs ⟨12, t, a, b, d, k, v, e, x, g⟩) (by rfl) rfl rfl rfl (Nat.succ_pos _) (unhide LL) ?_); intro X1 B1 hE1 L1 hb1; have hB1 := hide (Nat.le_trans (unhide LL).fr.size (Nat.le_of_eq hE1.symm)); replace LL := hide L1; clear L1 hb1 hE1; simp only [Act.put, List.setIfInBounds_toArray, List.set_cons_succ, List.set_cons_zero]) | ((refine rd (by rfl) (ex_load1 3 Tryd.isAgg3 rfl rfl ((unhide LL).get 0 rfl) rfl) ?_); simp only [Act.put, List.setIfInBounds_toArray, List.set_cons_succ, List.set_cons_zero]) | ((refine rd (by rfl) (ex_loadN (vs := e.cs) 32 18 rwD szD rfl rfl ((unhide LL).get 0 rfl) rfl rfl) ?_); simp only [Act.put, List.setIfInBounds_toArray, List.set_cons_succ, List.set_cons_zero]) | ((refine rd (by rfl) (ex_load1 4 Tryd.isAgg4 rfl rfl ((unhide LL).get 0 rfl) rfl) ?_); simp only [Act.put, List.setIfInBounds_toArray, List.set_cons_succ, List.set_cons_zero])))
    go_ret
    exact ⟨by simp, (unhide LL).fr.below⟩
  · simp only [hg, if_true] at HC
    clear hg
    cases x
    · go_enter Tryd.func24, Tryd.ntmps24
      go_wp2_with (first | go_skip | ((with_reducible show wpList _ _ _ _ _ _); first | ((refine bx 34 (OP.cs ⟨12, t, a, b, d, k, v, e, false, g⟩) (by rfl) rfl rfl rfl (Nat.succ_pos _) (unhide LL) ?_); intro X1 B1 hE1 L1 hb1; have hB1 := hide (Nat.le_trans (unhide LL).fr.size (Nat.le_of_eq hE1.symm)); replace LL := hide L1; clear L1 hb1 hE1; simp only [Act.put, List.setIfInBounds_toArray, List.set_cons_succ, List.set_cons_zero]) | ((refine rd (by rfl) (ex_load1 3 Tryd.isAgg3 rfl rfl ((unhide LL).get 0 rfl) rfl) ?_); simp only [Act.put, List.setIfInBounds_toArray, List.set_cons_succ, List.set_cons_zero]) | ((refine rd (by rfl) (ex_loadN (vs := e.cs) 32 18 rwD szD rfl rfl ((unhide LL).get 0 rfl) rfl rfl) ?_); simp only [Act.put, List.setIfInBounds_toArray, List.set_cons_succ, List.set_cons_zero]) | ((refine rd (by rfl) (ex_load1 4 Tryd.isAgg4 rfl rfl ((unhide LL).get 0 rfl) rfl) ?_); simp only [Act.put, List.setIfInBounds_toArray, List.set_cons_succ, List.set_cons_zero])))
      refine (unhide HC _ (tabs_below (unhide HT) (unhide LL).fr.below)).mono ?_
      rintro e0 X3 ⟨rfl, hb3⟩
      replace LL := hide ((unhide LL).on hb3)
      clear hb3
      go_wp2_with (first | go_skip | ((with_reducible show wpList _ _ _ _ _ _); first | ((refine bx 34 (OP.cs ⟨12, t, a, b, d, k, v, e, false, g⟩) (by rfl) rfl rfl rfl (Nat.succ_pos _) (unhide LL) ?_); intro X1 B1 hE1 L1 hb1; have hB1 := hide (Nat.le_trans (unhide LL).fr.size (Nat.le_of_eq hE1.symm)); replace LL := hide L1; clear L1 hb1 hE1; simp only [Act.put, List.setIfInBounds_toArray, List.set_cons_succ, List.set_cons_zero]) | ((refine rd (by rfl) (ex_load1 3 Tryd.isAgg3 rfl rfl ((unhide LL).get 0 rfl) rfl) ?_); simp only [Act.put, List.setIfInBounds_toArray, List.set_cons_succ, List.set_cons_zero]) | ((refine rd (by rfl) (ex_loadN (vs := e.cs) 32 18 rwD szD rfl rfl ((unhide LL).get 0 rfl) rfl rfl) ?_); simp only [Act.put, List.setIfInBounds_toArray, List.set_cons_succ, List.set_cons_zero]) | ((refine rd (by rfl) (ex_load1 4 Tryd.isAgg4 rfl rfl ((unhide LL).get 0 rfl) rfl) ?_); simp only [Act.put, List.setIfInBounds_toArray, List.set_cons_succ, List.set_cons_zero])))
      go_ret
      exact ⟨by simp, (unhide LL).fr.below⟩
    · go_enter Tryd.func24, Tryd.ntmps24
      go_wp2_with (first | go_skip | ((with_reducible show wpList _ _ _ _ _ _); first | ((refine bx 34 (OP.cs ⟨12, t, a, b, d, k, v, e, true, g⟩) (by rfl) rfl rfl rfl (Nat.succ_pos _) (unhide LL) ?_); intro X1 B1 hE1 L1 hb1; have hB1 := hide (Nat.le_trans (unhide LL).fr.size (Nat.le_of_eq hE1.symm)); replace LL := hide L1; clear L1 hb1 hE1; simp only [Act.put, List.setIfInBounds_toArray, List.set_cons_succ, List.set_cons_zero]) | ((refine rd (by rfl) (ex_load1 3 Tryd.isAgg3 rfl rfl ((unhide LL).get 0 rfl) rfl) ?_); simp only [Act.put, List.setIfInBounds_toArray, List.set_cons_succ, List.set_cons_zero]) | ((refine rd (by rfl) (ex_loadN (vs := e.cs) 32 18 rwD szD rfl rfl ((unhide LL).get 0 rfl) rfl rfl) ?_); simp only [Act.put, List.setIfInBounds_toArray, List.set_cons_succ, List.set_cons_zero]) | ((refine rd (by rfl) (ex_load1 4 Tryd.isAgg4 rfl rfl ((unhide LL).get 0 rfl) rfl) ?_); simp only [Act.put, List.setIfInBounds_toArray, List.set_cons_succ, List.set_cons_zero])))
      refine (unhide HC _ (tabs_below (unhide HT) (unhide LL).fr.below)).mono ?_
      rintro e0 X3 ⟨rfl, hb3⟩
      replace LL := hide ((unhide LL).on hb3)
      clear hb3
      go_wp2_with (first | go_skip | ((with_reducible show wpList _ _ _ _ _ _); first | ((refine bx 34 (OP.cs ⟨12, t, a, b, d, k, v, e, true, g⟩) (by rfl) rfl rfl rfl (Nat.succ_pos _) (unhide LL) ?_); intro X1 B1 hE1 L1 hb1; have hB1 := hide (Nat.le_trans (unhide LL).fr.size (Nat.le_of_eq hE1.symm)); replace LL := hide L1; clear L1 hb1 hE1; simp only [Act.put, List.setIfInBounds_toArray, List.set_cons_succ, List.set_cons_zero]) | ((refine rd (by rfl) (ex_load1 3 Tryd.isAgg3 rfl rfl ((unhide LL).get 0 rfl) rfl) ?_); simp only [Act.put, List.setIfInBounds_toArray, List.set_cons_succ, List.set_cons_zero]) | ((refine rd (by rfl) (ex_loadN (vs := e.cs) 32 18 rwD szD rfl rfl ((unhide LL).get 0 rfl) rfl rfl) ?_); simp only [Act.put, List.setIfInBounds_toArray, List.set_cons_succ, List.set_cons_zero]) | ((refine rd (by rfl) (ex_load1 4 Tryd.isAgg4 rfl rfl ((unhide LL).get 0 rfl) rfl) ?_); simp only [Act.put, List.setIfInBounds_toArray, List.set_cons_succ, List.set_cons_zero])))
      refine (unhide HA _).mono ?_
      rintro e0 X4 ⟨rfl, hb4⟩
      replace LL := hide ((unhide LL).on hb4)
      clear hb4
      cases hac : accV e
      · go_wp2_with (first | go_skip | ((with_reducible show wpList _ _ _ _ _ _); first | ((refine bx 34 (OP.cs ⟨12, t, a, b, d, k, v, e, true, g⟩) (by rfl) rfl rfl rfl (Nat.succ_pos _) (unhide LL) ?_); intro X1 B1 hE1 L1 hb1; have hB1 := hide (Nat.le_trans (unhide LL).fr.size (Nat.le_of_eq hE1.symm)); replace LL := hide L1; clear L1 hb1 hE1; simp only [Act.put, List.setIfInBounds_toArray, List.set_cons_succ, List.set_cons_zero]) | ((refine rd (by rfl) (ex_load1 3 Tryd.isAgg3 rfl rfl ((unhide LL).get 0 rfl) rfl) ?_); simp only [Act.put, List.setIfInBounds_toArray, List.set_cons_succ, List.set_cons_zero]) | ((refine rd (by rfl) (ex_loadN (vs := e.cs) 32 18 rwD szD rfl rfl ((unhide LL).get 0 rfl) rfl rfl) ?_); simp only [Act.put, List.setIfInBounds_toArray, List.set_cons_succ, List.set_cons_zero]) | ((refine rd (by rfl) (ex_load1 4 Tryd.isAgg4 rfl rfl ((unhide LL).get 0 rfl) rfl) ?_); simp only [Act.put, List.setIfInBounds_toArray, List.set_cons_succ, List.set_cons_zero])))
        go_ret
        exact ⟨by simp [hac], (unhide LL).fr.below⟩
      · go_wp2_with (first | go_skip | ((with_reducible show wpList _ _ _ _ _ _); first | ((refine bx 34 (OP.cs ⟨12, t, a, b, d, k, v, e, true, g⟩) (by rfl) rfl rfl rfl (Nat.succ_pos _) (unhide LL) ?_); intro X1 B1 hE1 L1 hb1; have hB1 := hide (Nat.le_trans (unhide LL).fr.size (Nat.le_of_eq hE1.symm)); replace LL := hide L1; clear L1 hb1 hE1; simp only [Act.put, List.setIfInBounds_toArray, List.set_cons_succ, List.set_cons_zero]) | ((refine rd (by rfl) (ex_load1 3 Tryd.isAgg3 rfl rfl ((unhide LL).get 0 rfl) rfl) ?_); simp only [Act.put, List.setIfInBounds_toArray, List.set_cons_succ, List.set_cons_zero]) | ((refine rd (by rfl) (ex_loadN (vs := e.cs) 32 18 rwD szD rfl rfl ((unhide LL).get 0 rfl) rfl rfl) ?_); simp only [Act.put, List.setIfInBounds_toArray, List.set_cons_succ, List.set_cons_zero]) | ((refine rd (by rfl) (ex_load1 4 Tryd.isAgg4 rfl rfl ((unhide LL).get 0 rfl) rfl) ?_); simp only [Act.put, List.setIfInBounds_toArray, List.set_cons_succ, List.set_cons_zero])))
        go_ret
        exact ⟨by simp [hac], (unhide LL).fr.below⟩
set_option maxRecDepth 100000 in
theorem rest13 (t a b d : Int) (k : KK) (v : VV) (e : DD) (x g : Bool) (w : World) : Calls Tryd.prog 24 #[OP.agg ⟨13, t, a, b, d, k, v, e, x, g⟩] w fun e' w' => e' = .returned (.bool (true)) ∧ Below w.heap.size w w' := by
  have LL := hide (Hq.nil w [])
  simp only [oagg] at *
  go_enter Tryd.func24, Tryd.ntmps24
  go_wp2_with (first | go_skip | ((with_reducible show wpList _ _ _ _ _ _); first | ((refine bx 34 (OP.cs ⟨13, t, a, b, d, k, v, e, x, g⟩) (by rfl) rfl rfl rfl (Nat.succ_pos _) (unhide LL) ?_); intro X1 B1 hE1 L1 hb1; have hB1 := hide (Nat.le_trans (unhide LL).fr.size (Nat.le_of_eq hE1.symm)); replace LL := hide L1; clear L1 hb1 hE1; simp only [Act.put, List.setIfInBounds_toArray, List.set_cons_succ, List.set_cons_zero]) | ((refine rd (by rfl) (ex_load1 3 Tryd.isAgg3 rfl rfl ((unhide LL).get 0 rfl) rfl) ?_); simp only [Act.put, List.setIfInBounds_toArray, List.set_cons_succ, List.set_cons_zero])))
  go_ret
  exact ⟨rfl, (unhide LL).fr.below⟩
set_option maxRecDepth 100000 in
theorem rest14 (t a b d : Int) (k : KK) (v : VV) (e : DD) (x g : Bool) (w : World) : Calls Tryd.prog 24 #[OP.agg ⟨14, t, a, b, d, k, v, e, x, g⟩] w fun e' w' => e' = .returned (.bool (true)) ∧ Below w.heap.size w w' := by
  have LL := hide (Hq.nil w [])
  simp only [oagg] at *
  go_enter Tryd.func24, Tryd.ntmps24
  go_wp2_with (first | go_skip | ((with_reducible show wpList _ _ _ _ _ _); first | ((refine bx 34 (OP.cs ⟨14, t, a, b, d, k, v, e, x, g⟩) (by rfl) rfl rfl rfl (Nat.succ_pos _) (unhide LL) ?_); intro X1 B1 hE1 L1 hb1; have hB1 := hide (Nat.le_trans (unhide LL).fr.size (Nat.le_of_eq hE1.symm)); replace LL := hide L1; clear L1 hb1 hE1; simp only [Act.put, List.setIfInBounds_toArray, List.set_cons_succ, List.set_cons_zero]) | ((refine rd (by rfl) (ex_load1 3 Tryd.isAgg3 rfl rfl ((unhide LL).get 0 rfl) rfl) ?_); simp only [Act.put, List.setIfInBounds_toArray, List.set_cons_succ, List.set_cons_zero])))
  go_ret
  exact ⟨rfl, (unhide LL).fr.below⟩
set_option maxRecDepth 100000 in
theorem rest15 (t a b d : Int) (k : KK) (v : VV) (e : DD) (x g : Bool) (w : World) : Calls Tryd.prog 24 #[OP.agg ⟨15, t, a, b, d, k, v, e, x, g⟩] w fun e' w' => e' = .returned (.bool (true)) ∧ Below w.heap.size w w' := by
  have LL := hide (Hq.nil w [])
  simp only [oagg] at *
  go_enter Tryd.func24, Tryd.ntmps24
  go_wp2_with (first | go_skip | ((with_reducible show wpList _ _ _ _ _ _); first | ((refine bx 34 (OP.cs ⟨15, t, a, b, d, k, v, e, x, g⟩) (by rfl) rfl rfl rfl (Nat.succ_pos _) (unhide LL) ?_); intro X1 B1 hE1 L1 hb1; have hB1 := hide (Nat.le_trans (unhide LL).fr.size (Nat.le_of_eq hE1.symm)); replace LL := hide L1; clear L1 hb1 hE1; simp only [Act.put, List.setIfInBounds_toArray, List.set_cons_succ, List.set_cons_zero]) | ((refine rd (by rfl) (ex_load1 3 Tryd.isAgg3 rfl rfl ((unhide LL).get 0 rfl) rfl) ?_); simp only [Act.put, List.setIfInBounds_toArray, List.set_cons_succ, List.set_cons_zero])))
  go_ret
  exact ⟨rfl, (unhide LL).fr.below⟩
set_option maxRecDepth 100000 in
theorem rest16 (t a b d : Int) (k : KK) (v : VV) (e : DD) (x g : Bool) (w : World) : Calls Tryd.prog 24 #[OP.agg ⟨16, t, a, b, d, k, v, e, x, g⟩] w fun e' w' => e' = .returned (.bool (true)) ∧ Below w.heap.size w w' := by
  have LL := hide (Hq.nil w [])
  simp only [oagg] at *
  go_enter Tryd.func24, Tryd.ntmps24
  go_wp2_with (first | go_skip | ((with_reducible show wpList _ _ _ _ _ _); first | ((refine bx 34 (OP.cs ⟨16, t, a, b, d, k, v, e, x, g⟩) (by rfl) rfl rfl rfl (Nat.succ_pos _) (unhide LL) ?_); intro X1 B1 hE1 L1 hb1; have hB1 := hide (Nat.le_trans (unhide LL).fr.size (Nat.le_of_eq hE1.symm)); replace LL := hide L1; clear L1 hb1 hE1; simp only [Act.put, List.setIfInBounds_toArray, List.set_cons_succ, List.set_cons_zero]) | ((refine rd (by rfl) (ex_load1 3 Tryd.isAgg3 rfl rfl ((unhide LL).get 0 rfl) rfl) ?_); simp only [Act.put, List.setIfInBounds_toArray, List.set_cons_succ, List.set_cons_zero])))
  go_ret
  exact ⟨rfl, (unhide LL).fr.below⟩
set_option maxRecDepth 100000 in
theorem rest17 (t a b d : Int) (k : KK) (v : VV) (e : DD) (x g : Bool) (w : World) : Calls Tryd.prog 24 #[OP.agg ⟨17, t, a, b, d, k, v, e, x, g⟩] w fun e' w' => e' = .returned (.bool (true)) ∧ Below w.heap.size w w' := by
  have LL := hide (Hq.nil w [])
  simp only [oagg] at *
  go_enter Tryd.func24, Tryd.ntmps24
  go_wp2_with (first | go_skip | ((with_reducible show wpList _ _ _ _ _ _); first | ((refine bx 34 (OP.cs ⟨17, t, a, b, d, k, v, e, x, g⟩) (by rfl) rfl rfl rfl (Nat.succ_pos _) (unhide LL) ?_); intro X1 B1 hE1 L1 hb1; have hB1 := hide (Nat.le_trans (unhide LL).fr.size (Nat.le_of_eq hE1.symm)); replace LL := hide L1; clear L1 hb1 hE1; simp only [Act.put, List.setIfInBounds_toArray, List.set_cons_succ, List.set_cons_zero]) | ((refine rd (by rfl) (ex_load1 3 Tryd.isAgg3 rfl rfl ((unhide LL).get 0 rfl) rfl) ?_); simp only [Act.put, List.setIfInBounds_toArray, List.set_cons_succ, List.set_cons_zero])))
  go_ret
  exact ⟨rfl, (unhide LL).fr.below⟩
set_option maxRecDepth 100000 in
theorem rest18 (t a b d : Int) (k : KK) (v : VV) (e : DD) (x g : Bool) (w : World) : Calls Tryd.prog 24 #[OP.agg ⟨18, t, a, b, d, k, v, e, x, g⟩] w fun e' w' => e' = .returned (.bool (true)) ∧ Below w.heap.size w w' := by
  have LL := hide (Hq.nil w [])
  simp only [oagg] at *
  go_enter Tryd.func24, Tryd.ntmps24
  go_wp2_with (first | go_skip | ((with_reducible show wpList _ _ _ _ _ _); first | ((refine bx 34 (OP.cs ⟨18, t, a, b, d, k, v, e, x, g⟩) (by rfl) rfl rfl rfl (Nat.succ_pos _) (unhide LL) ?_); intro X1 B1 hE1 L1 hb1; have hB1 := hide (Nat.le_trans (unhide LL).fr.size (Nat.le_of_eq hE1.symm)); replace LL := hide L1; clear L1 hb1 hE1; simp only [Act.put, List.setIfInBounds_toArray, List.set_cons_succ, List.set_cons_zero]) | ((refine rd (by rfl) (ex_load1 3 Tryd.isAgg3 rfl rfl ((unhide LL).get 0 rfl) rfl) ?_); simp only [Act.put, List.setIfInBounds_toArray, List.set_cons_succ, List.set_cons_zero])))
  go_ret
  exact ⟨rfl, (unhide LL).fr.below⟩
set_option maxRecDepth 100000 in
theorem rest19 (t a b d : Int) (k : KK) (v : VV) (e : DD) (x g : Bool) (w : World) : Calls Tryd.prog 24 #[OP.agg ⟨19, t, a, b, d, k, v, e, x, g⟩] w fun e' w' => e' = .returned (.bool (true)) ∧ Below w.heap.size w w' := by
  have LL := hide (Hq.nil w [])
  simp only [oagg] at *
  go_enter Tryd.func24, Tryd.ntmps24
  go_wp2_with (first | go_skip | ((with_reducible show wpList _ _ _ _ _ _); first | ((refine bx 34 (OP.cs ⟨19, t, a, b, d, k, v, e, x, g⟩) (by rfl) rfl rfl rfl (Nat.succ_pos _) (unhide LL) ?_); intro X1 B1 hE1 L1 hb1; have hB1 := hide (Nat.le_trans (unhide LL).fr.size (Nat.le_of_eq hE1.symm)); replace LL := hide L1; clear L1 hb1 hE1; simp only [Act.put, List.setIfInBounds_toArray, List.set_cons_succ, List.set_cons_zero]) | ((refine rd (by rfl) (ex_load1 3 Tryd.isAgg3 rfl rfl ((unhide LL).get 0 rfl) rfl) ?_); simp only [Act.put, List.setIfInBounds_toArray, List.set_cons_succ, List.set_cons_zero])))
  go_ret
  exact ⟨rfl, (unhide LL).fr.below⟩
set_option maxRecDepth 100000 in
theorem rest20 (t a b d : Int) (k : KK) (v : VV) (e : DD) (x g : Bool) (w : World) : Calls Tryd.prog 24 #[OP.agg ⟨20, t, a, b, d, k, v, e, x, g⟩] w fun e' w' => e' = .returned (.bool (true)) ∧ Below w.heap.size w w' := by
  have LL := hide (Hq.nil w [])
  simp only [oagg] at *
  go_enter Tryd.func24, Tryd.ntmps24
  go_wp2_with (first | go_skip | ((with_reducible show wpList _ _ _ _ _ _); first | ((refine bx 34 (OP.cs ⟨20, t, a, b, d, k, v, e, x, g⟩) (by rfl) rfl rfl rfl (Nat.succ_pos _) (unhide LL) ?_); intro X1 B1 hE1 L1 hb1; have hB1 := hide (Nat.le_trans (unhide LL).fr.size (Nat.le_of_eq hE1.symm)); replace LL := hide L1; clear L1 hb1 hE1; simp only [Act.put, List.setIfInBounds_toArray, List.set_cons_succ, List.set_cons_zero]) | ((refine rd (by rfl) (ex_load1 3 Tryd.isAgg3 rfl rfl ((unhide LL).get 0 rfl) rfl) ?_); simp only [Act.put, List.setIfInBounds_toArray, List.set_cons_succ, List.set_cons_zero])))
  go_ret
  exact ⟨rfl, (unhide LL).fr.below⟩
set_option maxRecDepth 100000 in
theorem rest21 (t a b d : Int) (k : KK) (v : VV) (e : DD) (x g : Bool) (w : World) : Calls Tryd.prog 24 #[OP.agg ⟨21, t, a, b, d, k, v, e, x, g⟩] w fun e' w' => e' = .returned (.bool (true)) ∧ Below w.heap.size w w' := by
  have LL := hide (Hq.nil w [])
  simp only [oagg] at *
  go_enter Tryd.func24, Tryd.ntmps24
  go_wp2_with (first | go_skip | ((with_reducible show wpList _ _ _ _ _ _); first | ((refine bx 34 (OP.cs ⟨21, t, a, b, d, k, v, e, x, g⟩) (by rfl) rfl rfl rfl (Nat.succ_pos _) (unhide LL) ?_); intro X1 B1 hE1 L1 hb1; have hB1 := hide (Nat.le_trans (unhide LL).fr.size (Nat.le_of_eq hE1.symm)); replace LL := hide L1; clear L1 hb1 hE1; simp only [Act.put, List.setIfInBounds_toArray, List.set_cons_succ, List.set_cons_zero]) | ((refine rd (by rfl) (ex_load1 3 Tryd.isAgg3 rfl rfl ((unhide LL).get 0 rfl) rfl) ?_); simp only [Act.put, List.setIfInBounds_toArray, List.set_cons_succ, List.set_cons_zero])))
  go_ret
  exact ⟨rfl, (unhide LL).fr.below⟩
set_option maxRecDepth 100000 in
theorem rest22 (t a b d : Int) (k : KK) (v : VV) (e : DD) (x g : Bool) (w : World) : Calls Tryd.prog 24 #[OP.agg ⟨22, t, a, b, d, k, v, e, x, g⟩] w fun e' w' => e' = .returned (.bool (true)) ∧ Below w.heap.size w w' := by
  have LL := hide (Hq.nil w [])
  simp only [oagg] at *
  go_enter Tryd.func24, Tryd.ntmps24
  go_wp2_with (first | go_skip | ((with_reducible show wpList _ _ _ _ _ _); first | ((refine bx 34 (OP.cs ⟨22, t, a, b, d, k, v, e, x, g⟩) (by rfl) rfl rfl rfl (Nat.succ_pos _) (unhide LL) ?_); intro X1 B1 hE1 L1 hb1; have hB1 := hide (Nat.le_trans (unhide LL).fr.size (Nat.le_of_eq hE1.symm)); replace LL := hide L1; clear L1 hb1 hE1; simp only [Act.put, List.setIfInBounds_toArray, List.set_cons_succ, List.set_cons_zero]) | ((refine rd (by rfl) (ex_load1 3 Tryd.isAgg3 rfl rfl ((unhide LL).get 0 rfl) rfl) ?_); simp only [Act.put, List.setIfInBounds_toArray, List.set_cons_succ, List.set_cons_zero])))
  go_ret
  exact ⟨rfl, (unhide LL).fr.below⟩
set_option maxRecDepth 100000 in
theorem rest23 (t a b d : Int) (k : KK) (v : VV) (e : DD) (x g : Bool) (w : World) : Calls Tryd.prog 24 #[OP.agg ⟨23, t, a, b, d, k, v, e, x, g⟩] w fun e' w' => e' = .returned (.bool (true)) ∧ Below w.heap.size w w' := by
  have LL := hide (Hq.nil w [])
  simp only [oagg] at *
  go_enter Tryd.func24, Tryd.ntmps24
  go_wp2_with (first | go_skip | ((with_reducible show wpList _ _ _ _ _ _); first | ((refine bx 34 (OP.cs ⟨23, t, a, b, d, k, v, e, x, g⟩) (by rfl) rfl rfl rfl (Nat.succ_pos _) (unhide LL) ?_); intro X1 B1 hE1 L1 hb1; have hB1 := hide (Nat.le_trans (unhide LL).fr.size (Nat.le_of_eq hE1.symm)); replace LL := hide L1; clear L1 hb1 hE1; simp only [Act.put, List.setIfInBounds_toArray, List.set_cons_succ, List.set_cons_zero]) | ((refine rd (by rfl) (ex_load1 3 Tryd.isAgg3 rfl rfl ((unhide LL).get 0 rfl) rfl) ?_); simp only [Act.put, List.setIfInBounds_toArray, List.set_cons_succ, List.set_cons_zero])))
  go_ret
  exact ⟨rfl, (unhide LL).fr.below⟩
set_option maxRecDepth 100000 in
theorem rest24 (t a b d : Int) (k : KK) (v : VV) (e : DD) (x g : Bool) (w : World) : Calls Tryd.prog 24 #[OP.agg ⟨24, t, a, b, d, k, v, e, x, g⟩] w fun e' w' => e' = .returned (.bool (true)) ∧ Below w.heap.size w w' := by
  have LL := hide (Hq.nil w [])
  simp only [oagg] at *
  go_enter Tryd.func24, Tryd.ntmps24
  go_wp2_with (first | go_skip | ((with_reducible show wpList _ _ _ _ _ _); first | ((refine bx 34 (OP.cs ⟨24, t, a, b, d, k, v, e, x, g⟩) (by rfl) rfl rfl rfl (Nat.succ_pos _) (unhide LL) ?_); intro X1 B1 hE1 L1 hb1; have hB1 := hide (Nat.le_trans (unhide LL).fr.size (Nat.le_of_eq hE1.symm)); replace LL := hide L1; clear L1 hb1 hE1; simp only [Act.put, List.setIfInBounds_toArray, List.set_cons_succ, List.set_cons_zero]) | ((refine rd (by rfl) (ex_load1 3 Tryd.isAgg3 rfl rfl ((unhide LL).get 0 rfl) rfl) ?_); simp only [Act.put, List.setIfInBounds_toArray, List.set_cons_succ, List.set_cons_zero])))
  go_ret
  exact ⟨rfl, (unhide LL).fr.below⟩
theorem rest_any (o : OP) (h1 : 1 ≤ o.c) (h2 : o.c ≤ 24) (hO : OkO o) (w : World) (hT : Lib.Utf8Tabs 1 2 w) : Calls Tryd.prog 24 #[o.agg] w fun e w' => e = .returned (.bool (rstV o)) ∧ Below w.heap.size w w' := by
  obtain ⟨c, t, a, b, d, k, v, e, x, g⟩ := o
  dsimp only at h1 h2
  rcases codes h1 h2 with rfl | rfl | rfl | rfl | rfl | rfl | rfl | rfl | rfl | rfl | rfl | rfl | rfl | rfl | rfl | rfl | rfl | rfl | rfl | rfl | rfl | rfl | rfl | rfl
  · exact rest1 t a b d k v e x g w hT
  · exact rest2 t a b d k v e x g w
  · exact rest3 t a b d k v e x g w
  · exact rest4 t a b d k v e x g w
  · exact rest5 t a b d k v e x g w
  · exact rest6 t a b d k v e x g w
  · exact rest7 t a b d k v e x g w
  · exact rest8 t a b d k v e x g w
  · exact rest9 t a b d k v e x g w
  · exact rest10 t a b d k v e x g w
  · exact rest11 t a b d k v e x g w
  · exact rest12 t a b d k v e x g w hO.1 hT
  · exact rest13 t a b d k v e x g w
  · exact rest14 t a b d k v e x g w
  · exact rest15 t a b d k v e x g w
  · exact rest16 t a b d k v e x g w
  · exact rest17 t a b d k v e x g w
  · exact rest18 t a b d k v e x g w
  · exact rest19 t a b d k v e x g w
  · exact rest20 t a b d k v e x g w
  · exact rest21 t a b d k v e x g w
  · exact rest22 t a b d k v e x g w
  · exact rest23 t a b d k v e x g w
  · exact rest24 t a b d k v e x g w
end Go.Proofs.YteohiamifoonkaaDoor
