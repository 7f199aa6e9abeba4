import Derived.Test.YtmgflhhealdfoaaGreatDoorRh
set_option linter.all false
namespace Go.Proofs.YtmgflhhealdfoaaGreatDoor
set_option maxHeartbeats 1000000
section
open Go Go.Proofs Go.Maps Go.RowKit FM
theorem infI : (Tryz.prog.info? 3).map (fun i => (i.zero, i.size, i.bytes)) = some (some (.int .i64 0), 1, 8) := by kernel_rfl
theorem readsI_holds {X : World} {B : Nat} {l : List Int} (h : Holds X B (l.map fun n => Value.int .i64 n)) (hlt : B < X.heap.size) : ReadsI X (some ⟨B, 0, none⟩) l := fun j n hn => by
  refine ⟨B, 0, rfl, hlt, fun i v hv => ?_⟩
  have h1 := h.cell j (v := .int .i64 n) (by rw [List.getElem?_map, hn]; rfl)
  match i, hv with
  | 0, hv =>
    obtain rfl : Value.int .i64 n = v := by simpa using hv
    simpa using h1
def RegPost (w : World) (l : List Int) (e : Ending) (X : World) : Prop := ∃ A c, e = .returned (.slice A l.length c) ∧ ReadsI X A l ∧ Below w.heap.size w X
def regL (o : OP) : List Int := if o.c = 7 ∨ o.c = 8 ∨ o.c = 10 then [o.a] else if o.c = 12 then [o.a, o.b] else []
def rstV (o : OP) : Bool := if o.c = 1 then o.v.good else if o.c = 4 then decide (0 ≤ o.a) else if o.c = 12 then (rgoodV o.e && !(o.f && accD o.e)) else true
def sndV (o : OP) : Bool := rgB o.t && (!(regL o).any (fun n => !rgB n) && ((!useK o.c || goodK o.k) && rstV o))
theorem chk_good (d : DD) : chkV d = if rgoodV d = true then 0 else 5 := by
  have h := (fourD d).1.1
  unfold chkV
  rw [h]
  by_cases hk : kindV d = 0 <;> simp [hk]
theorem buildI1 {ops : Array Oper} {rest : List Oper} {Q : Exit → Act → World → Prop} {w w0 : World} {a : Act} {o : Oper} {E : List Nat} {L : List Ob} {x0 : Operand} (m0 : Int) (hw : Region.wanted o (yielded ops a.tmps) = true) (ho : o.op = .buildSlice 111 1 #[(0, x0)]) (h0 : a.eval x0 = .int .i64 m0) (hL : Sy w0 w E L)
    (h : ∀ X B, Sy w0 X E (L ++ [boxO B [.int .i64 m0]]) → wpList Tryz.prog ops Q rest (a.put o.dst (.slice (some ⟨B, 0, none⟩) 1 1)) X) : wpList Tryz.prog ops Q (o :: rest) a w := by
  refine BigFrame.wpList_want hw fun K hK => ?_
  obtain ⟨i0, hi, hz0, hz1, hz2⟩ := info_parts infI
  refine wp_buildSlice 111 3 1 _ ho #[.int .i64 m0] i0 _ Tryz.underlying111 hi hz0 (by rw [hz1]; omega) (by rw [hz1]; omega) ?_ (hK _ _ (h _ _ (hL.box [.int .i64 m0] 3 (by simp))))
  rw [hz1]
  simp only [List.map_toArray, List.map_cons, List.map_nil, h0]
  kernel_rfl
theorem buildI2 {ops : Array Oper} {rest : List Oper} {Q : Exit → Act → World → Prop} {w w0 : World} {a : Act} {o : Oper} {E : List Nat} {L : List Ob} {x0 x1 : Operand} (m0 m1 : Int) (hw : Region.wanted o (yielded ops a.tmps) = true) (ho : o.op = .buildSlice 111 2 #[(0, x0), (1, x1)]) (h0 : a.eval x0 = .int .i64 m0) (h1 : a.eval x1 = .int .i64 m1) (hL : Sy w0 w E L)
    (h : ∀ X B, Sy w0 X E (L ++ [boxO B [.int .i64 m0, .int .i64 m1]]) → wpList Tryz.prog ops Q rest (a.put o.dst (.slice (some ⟨B, 0, none⟩) 2 2)) X) : wpList Tryz.prog ops Q (o :: rest) a w := by
  refine BigFrame.wpList_want hw fun K hK => ?_
  obtain ⟨i0, hi, hz0, hz1, hz2⟩ := info_parts infI
  refine wp_buildSlice 111 3 2 _ ho #[.int .i64 m0, .int .i64 m1] i0 _ Tryz.underlying111 hi hz0 (by rw [hz1]; omega) (by rw [hz1]; omega) ?_ (hK _ _ (h _ _ (hL.box [.int .i64 m0, .int .i64 m1] 3 (by simp))))
  rw [hz1]
  simp only [List.map_toArray, List.map_cons, List.map_nil, h0, h1]
  kernel_rfl
set_option maxRecDepth 100000 in
theorem regs1 (t a b d : Int) (k : KK) (v : VV) (e : DD) (x g : Bool) (w : World) : Calls Tryz.prog 59 #[OP.agg ⟨1, t, a, b, d, k, v, e, x, g⟩] w (RegPost w []) := by
  have SS := hide (Sy.nil w [])
  simp only [pagg]
  go_enter Tryz.func59, Tryz.ntmps59
  go_wp2_with (first | go_skip | ((with_reducible show wpList _ _ _ _ _ _); first | (refine zB 40 (OP.cs ⟨1, t, a, b, d, k, v, e, x, g⟩) (by rfl) rfl rfl rfl SS ?_; clear SS; intro X1 B1 SS; simp only [Act.put, n1, n2, n3]) | (refine z1 3 Tryz.isAgg3 0 (by rfl) rfl rfl SS rfl rfl ?_; simp only [Act.put, n1, n2, n3])))
  go_ret
  exact ⟨none, 0, rfl, fun j n hn => by simp at hn, (unhide SS).fr.below⟩
set_option maxRecDepth 100000 in
theorem regs3 (t a b d : Int) (k : KK) (v : VV) (e : DD) (x g : Bool) (w : World) : Calls Tryz.prog 59 #[OP.agg ⟨3, t, a, b, d, k, v, e, x, g⟩] w (RegPost w []) := by
  have SS := hide (Sy.nil w [])
  simp only [pagg]
  go_enter Tryz.func59, Tryz.ntmps59
  go_wp2_with (first | go_skip | ((with_reducible show wpList _ _ _ _ _ _); first | (refine zB 40 (OP.cs ⟨3, t, a, b, d, k, v, e, x, g⟩) (by rfl) rfl rfl rfl SS ?_; clear SS; intro X1 B1 SS; simp only [Act.put, n1, n2, n3]) | (refine z1 3 Tryz.isAgg3 0 (by rfl) rfl rfl SS rfl rfl ?_; simp only [Act.put, n1, n2, n3])))
  go_ret
  exact ⟨none, 0, rfl, fun j n hn => by simp at hn, (unhide SS).fr.below⟩
set_option maxRecDepth 100000 in
theorem regs4 (t a b d : Int) (k : KK) (v : VV) (e : DD) (x g : Bool) (w : World) : Calls Tryz.prog 59 #[OP.agg ⟨4, t, a, b, d, k, v, e, x, g⟩] w (RegPost w []) := by
  have SS := hide (Sy.nil w [])
  simp only [pagg]
  go_enter Tryz.func59, Tryz.ntmps59
  go_wp2_with (first | go_skip | ((with_reducible show wpList _ _ _ _ _ _); first | (refine zB 40 (OP.cs ⟨4, t, a, b, d, k, v, e, x, g⟩) (by rfl) rfl rfl rfl SS ?_; clear SS; intro X1 B1 SS; simp only [Act.put, n1, n2, n3]) | (refine z1 3 Tryz.isAgg3 0 (by rfl) rfl rfl SS rfl rfl ?_; simp only [Act.put, n1, n2, n3])))
  go_ret
  exact ⟨none, 0, rfl, fun j n hn => by simp at hn, (unhide SS).fr.below⟩
set_option maxRecDepth 100000 in
theorem regs7 (t a b d : Int) (k : KK) (v : VV) (e : DD) (x g : Bool) (w : World) : Calls Tryz.prog 59 #[OP.agg ⟨7, t, a, b, d, k, v, e, x, g⟩] w (RegPost w [a]) := by
  have SS := hide (Sy.nil w [])
  simp only [pagg]
  go_enter Tryz.func59, Tryz.ntmps59
  go_wp2_with (first | go_skip | ((with_reducible show wpList _ _ _ _ _ _); first | (refine zB 40 (OP.cs ⟨7, t, a, b, d, k, v, e, x, g⟩) (by rfl) rfl rfl rfl SS ?_; clear SS; intro X1 B1 SS; simp only [Act.put, n1, n2, n3]) | (refine z1 3 Tryz.isAgg3 0 (by rfl) rfl rfl SS rfl rfl ?_; simp only [Act.put, n1, n2, n3]) | ((refine buildI1 a (by rfl) rfl rfl (unhide SS) ?_); intro X7 B7 S7; replace SS := hide S7; clear S7; simp only [Act.put, n1, n2, n3])))
  go_ret
  exact ⟨_, _, rfl, readsI_holds (l := [a]) ((unhide SS).hold 1 rfl) ((unhide SS).lt 1 rfl _ (List.mem_singleton.2 rfl)), (unhide SS).fr.below⟩
set_option maxRecDepth 100000 in
theorem regs8 (t a b d : Int) (k : KK) (v : VV) (e : DD) (x g : Bool) (w : World) : Calls Tryz.prog 59 #[OP.agg ⟨8, t, a, b, d, k, v, e, x, g⟩] w (RegPost w [a]) := by
  have SS := hide (Sy.nil w [])
  simp only [pagg]
  go_enter Tryz.func59, Tryz.ntmps59
  go_wp2_with (first | go_skip | ((with_reducible show wpList _ _ _ _ _ _); first | (refine zB 40 (OP.cs ⟨8, t, a, b, d, k, v, e, x, g⟩) (by rfl) rfl rfl rfl SS ?_; clear SS; intro X1 B1 SS; simp only [Act.put, n1, n2, n3]) | (refine z1 3 Tryz.isAgg3 0 (by rfl) rfl rfl SS rfl rfl ?_; simp only [Act.put, n1, n2, n3]) | ((refine buildI1 a (by rfl) rfl rfl (unhide SS) ?_); intro X7 B7 S7; replace SS := hide S7; clear S7; simp only [Act.put, n1, n2, n3])))
  go_ret
  exact ⟨_, _, rfl, readsI_holds (l := [a]) ((unhide SS).hold 1 rfl) ((unhide SS).lt 1 rfl _ (List.mem_singleton.2 rfl)), (unhide SS).fr.below⟩
set_option maxRecDepth 100000 in
theorem regs10 (t a b d : Int) (k : KK) (v : VV) (e : DD) (x g : Bool) (w : World) : Calls Tryz.prog 59 #[OP.agg ⟨10, t, a, b, d, k, v, e, x, g⟩] w (RegPost w [a]) := by
  have SS := hide (Sy.nil w [])
  simp only [pagg]
  go_enter Tryz.func59, Tryz.ntmps59
  go_wp2_with (first | go_skip | ((with_reducible show wpList _ _ _ _ _ _); first | (refine zB 40 (OP.cs ⟨10, t, a, b, d, k, v, e, x, g⟩) (by rfl) rfl rfl rfl SS ?_; clear SS; intro X1 B1 SS; simp only [Act.put, n1, n2, n3]) | (refine z1 3 Tryz.isAgg3 0 (by rfl) rfl rfl SS rfl rfl ?_; simp only [Act.put, n1, n2, n3]) | ((refine buildI1 a (by rfl) rfl rfl (unhide SS) ?_); intro X7 B7 S7; replace SS := hide S7; clear S7; simp only [Act.put, n1, n2, n3])))
  go_ret
  exact ⟨_, _, rfl, readsI_holds (l := [a]) ((unhide SS).hold 1 rfl) ((unhide SS).lt 1 rfl _ (List.mem_singleton.2 rfl)), (unhide SS).fr.below⟩
set_option maxRecDepth 100000 in
theorem regs12 (t a b d : Int) (k : KK) (v : VV) (e : DD) (x g : Bool) (w : World) : Calls Tryz.prog 59 #[OP.agg ⟨12, t, a, b, d, k, v, e, x, g⟩] w (RegPost w [a, b]) := by
  have SS := hide (Sy.nil w [])
  simp only [pagg]
  go_enter Tryz.func59, Tryz.ntmps59
  go_wp2_with (first | go_skip | ((with_reducible show wpList _ _ _ _ _ _); first | (refine zB 40 (OP.cs ⟨12, t, a, b, d, k, v, e, x, g⟩) (by rfl) rfl rfl rfl SS ?_; clear SS; intro X1 B1 SS; simp only [Act.put, n1, n2, n3]) | (refine z1 3 Tryz.isAgg3 0 (by rfl) rfl rfl SS rfl rfl ?_; simp only [Act.put, n1, n2, n3]) | ((refine buildI2 a b (by rfl) rfl rfl rfl (unhide SS) ?_); intro X7 B7 S7; replace SS := hide S7; clear S7; simp only [Act.put, n1, n2, n3])))
  go_ret
  exact ⟨_, _, rfl, readsI_holds (l := [a, b]) ((unhide SS).hold 1 rfl) ((unhide SS).lt 1 rfl _ (List.mem_singleton.2 rfl)), (unhide SS).fr.below⟩
theorem regs_any (o : OP) (h1 : OkC o.c) (w : World) : Calls Tryz.prog 59 #[o.agg] w (RegPost w (regL o)) := by
  obtain ⟨c, t, a, b, d, k, v, e, x, g⟩ := o
  dsimp only at h1
  rcases h1 with rfl | rfl | rfl | rfl | rfl | rfl | rfl
  · exact regs1 t a b d k v e x g w
  · exact regs3 t a b d k v e x g w
  · exact regs4 t a b d k v e x g w
  · exact regs7 t a b d k v e x g w
  · exact regs8 t a b d k v e x g w
  · exact regs10 t a b d k v e x g w
  · exact regs12 t a b d k v e x g w
set_option maxRecDepth 100000 in
theorem rest1 (t a b d : Int) (k : KK) (v : VV) (e : DD) (x g : Bool) (w : World) (hT : Lib.Utf8Tabs 1 2 w) : Calls Tryz.prog 61 #[OP.agg ⟨1, t, a, b, d, k, v, e, x, g⟩] w fun e' w' => e' = .returned (.bool (v.good)) ∧ Below w.heap.size w w' := by
  have SS := hide (Sy.nil w [])
  have HC := hide (fun w hT => check_any v w hT)
  have HT := hide hT
  clear hT
  simp only [pagg, vagg] at *
  cases hg : v.good
  · rw [hg] at HC
    clear hg
    go_enter Tryz.func61, Tryz.ntmps61
    go_wp2_with (first | go_skip | ((with_reducible show wpList _ _ _ _ _ _); first | (refine zB 40 (OP.cs ⟨1, t, a, b, d, k, v, e, x, g⟩) (by rfl) rfl rfl rfl SS ?_; clear SS; intro X1 B1 SS; simp only [Act.put, n1, n2, n3]) | (refine z1 3 Tryz.isAgg3 0 (by rfl) rfl rfl SS rfl rfl ?_; simp only [Act.put, n1, n2, n3]) | (refine zL (v.cs) 24 5 0 rwV szV (by rfl) rfl rfl SS rfl rfl rfl ?_; simp only [Act.put, n1, n2, n3])))
    refine (unhide HC _ (tabs_below (unhide HT) (unhide SS).fr.below)).mono ?_
    rintro e0 X3 ⟨rfl, hb3⟩
    replace SS := hide ((unhide SS).on hb3)
    clear hb3
    simp only [errB]
    go_wp2_with fail
    go_ret
    exact ⟨rfl, (unhide SS).fr.below⟩
  · rw [hg] at HC
    clear hg
    go_enter Tryz.func61, Tryz.ntmps61
    go_wp2_with (first | go_skip | ((with_reducible show wpList _ _ _ _ _ _); first | (refine zB 40 (OP.cs ⟨1, t, a, b, d, k, v, e, x, g⟩) (by rfl) rfl rfl rfl SS ?_; clear SS; intro X1 B1 SS; simp only [Act.put, n1, n2, n3]) | (refine z1 3 Tryz.isAgg3 0 (by rfl) rfl rfl SS rfl rfl ?_; simp only [Act.put, n1, n2, n3]) | (refine zL (v.cs) 24 5 0 rwV szV (by rfl) rfl rfl SS rfl rfl rfl ?_; simp only [Act.put, n1, n2, n3])))
    refine (unhide HC _ (tabs_below (unhide HT) (unhide SS).fr.below)).mono ?_
    rintro e0 X3 ⟨rfl, hb3⟩
    replace SS := hide ((unhide SS).on hb3)
    clear hb3
    simp only [errB]
    go_wp2_with fail
    go_ret
    exact ⟨rfl, (unhide SS).fr.below⟩
set_option maxRecDepth 100000 in
theorem rest3 (t a b d : Int) (k : KK) (v : VV) (e : DD) (x g : Bool) (w : World) : Calls Tryz.prog 61 #[OP.agg ⟨3, t, a, b, d, k, v, e, x, g⟩] w fun e' w' => e' = .returned (.bool (true)) ∧ Below w.heap.size w w' := by
  have SS := hide (Sy.nil w [])
  simp only [pagg] at *
  go_enter Tryz.func61, Tryz.ntmps61
  go_wp2_with (first | go_skip | ((with_reducible show wpList _ _ _ _ _ _); first | (refine zB 40 (OP.cs ⟨3, t, a, b, d, k, v, e, x, g⟩) (by rfl) rfl rfl rfl SS ?_; clear SS; intro X1 B1 SS; simp only [Act.put, n1, n2, n3]) | (refine z1 3 Tryz.isAgg3 0 (by rfl) rfl rfl SS rfl rfl ?_; simp only [Act.put, n1, n2, n3])))
  go_ret
  exact ⟨rfl, (unhide SS).fr.below⟩
set_option maxRecDepth 100000 in
theorem rest4 (t a b d : Int) (k : KK) (v : VV) (e : DD) (x g : Bool) (w : World) : Calls Tryz.prog 61 #[OP.agg ⟨4, t, a, b, d, k, v, e, x, g⟩] w fun e' w' => e' = .returned (.bool (decide (0 ≤ a))) ∧ Below w.heap.size w w' := by
  have SS := hide (Sy.nil w [])
  simp only [pagg] at *
  generalize hr : decide (0 ≤ a) = r
  go_enter Tryz.func61, Tryz.ntmps61
  go_wp2_with (first | go_skip | ((with_reducible show wpList _ _ _ _ _ _); first | (refine zB 40 (OP.cs ⟨4, t, a, b, d, k, v, e, x, g⟩) (by rfl) rfl rfl rfl SS ?_; clear SS; intro X1 B1 SS; simp only [Act.put, n1, n2, n3]) | (refine z1 3 Tryz.isAgg3 0 (by rfl) rfl rfl SS rfl rfl ?_; simp only [Act.put, n1, n2, n3]) | (refine rd (by rfl) (ex_geI rfl rfl rfl hr) ?_; simp only [Act.put, n1, n2, n3])))
  go_ret
  exact ⟨rfl, (unhide SS).fr.below⟩
set_option maxRecDepth 100000 in
theorem rest7 (t a b d : Int) (k : KK) (v : VV) (e : DD) (x g : Bool) (w : World) : Calls Tryz.prog 61 #[OP.agg ⟨7, t, a, b, d, k, v, e, x, g⟩] w fun e' w' => e' = .returned (.bool (true)) ∧ Below w.heap.size w w' := by
  have SS := hide (Sy.nil w [])
  simp only [pagg] at *
  go_enter Tryz.func61, Tryz.ntmps61
  go_wp2_with (first | go_skip | ((with_reducible show wpList _ _ _ _ _ _); first | (refine zB 40 (OP.cs ⟨7, t, a, b, d, k, v, e, x, g⟩) (by rfl) rfl rfl rfl SS ?_; clear SS; intro X1 B1 SS; simp only [Act.put, n1, n2, n3]) | (refine z1 3 Tryz.isAgg3 0 (by rfl) rfl rfl SS rfl rfl ?_; simp only [Act.put, n1, n2, n3])))
  go_ret
  exact ⟨rfl, (unhide SS).fr.below⟩
set_option maxRecDepth 100000 in
theorem rest8 (t a b d : Int) (k : KK) (v : VV) (e : DD) (x g : Bool) (w : World) : Calls Tryz.prog 61 #[OP.agg ⟨8, t, a, b, d, k, v, e, x, g⟩] w fun e' w' => e' = .returned (.bool (true)) ∧ Below w.heap.size w w' := by
  have SS := hide (Sy.nil w [])
  simp only [pagg] at *
  go_enter Tryz.func61, Tryz.ntmps61
  go_wp2_with (first | go_skip | ((with_reducible show wpList _ _ _ _ _ _); first | (refine zB 40 (OP.cs ⟨8, t, a, b, d, k, v, e, x, g⟩) (by rfl) rfl rfl rfl SS ?_; clear SS; intro X1 B1 SS; simp only [Act.put, n1, n2, n3]) | (refine z1 3 Tryz.isAgg3 0 (by rfl) rfl rfl SS rfl rfl ?_; simp only [Act.put, n1, n2, n3])))
  go_ret
  exact ⟨rfl, (unhide SS).fr.below⟩
set_option maxRecDepth 100000 in
theorem rest10 (t a b d : Int) (k : KK) (v : VV) (e : DD) (x g : Bool) (w : World) : Calls Tryz.prog 61 #[OP.agg ⟨10, t, a, b, d, k, v, e, x, g⟩] w fun e' w' => e' = .returned (.bool (true)) ∧ Below w.heap.size w w' := by
  have SS := hide (Sy.nil w [])
  simp only [pagg] at *
  go_enter Tryz.func61, Tryz.ntmps61
  go_wp2_with (first | go_skip | ((with_reducible show wpList _ _ _ _ _ _); first | (refine zB 40 (OP.cs ⟨10, t, a, b, d, k, v, e, x, g⟩) (by rfl) rfl rfl rfl SS ?_; clear SS; intro X1 B1 SS; simp only [Act.put, n1, n2, n3]) | (refine z1 3 Tryz.isAgg3 0 (by rfl) rfl rfl SS rfl rfl ?_; simp only [Act.put, n1, n2, n3])))
  go_ret
  exact ⟨rfl, (unhide SS).fr.below⟩
set_option maxRecDepth 100000 in
theorem rest12 (t a b d : Int) (k : KK) (v : VV) (e : DD) (x g : Bool) (w : World) (hd : FD e) (hT : Lib.Utf8Tabs 1 2 w) : Calls Tryz.prog 61 #[OP.agg ⟨12, t, a, b, d, k, v, e, x, g⟩] w fun e' w' => e' = .returned (.bool (rgoodV e && !(x && accD e))) ∧ Below w.heap.size w w' := by
  have SS := hide (Sy.nil w [])
  have HC := hide (fun w hT => check12D e hd w hT)
  have HA := hide (accessor_any e)
  have HT := hide hT
  clear hT hd
  simp only [pagg, dagg, chk_good] at *
  cases hg : rgoodV e
  · simp only [hg] at HC
    clear hg
    go_enter Tryz.func61, Tryz.ntmps61
    go_wp2_with (first | go_skip | ((with_reducible show wpList _ _ _ _ _ _); first | (refine zB 40 (OP.cs ⟨12, t, a, b, d, k, v, e, x, g⟩) (by rfl) rfl rfl rfl SS ?_; clear SS; intro X1 B1 SS; simp only [Act.put, n1, n2, n3]) | (refine z1 3 Tryz.isAgg3 0 (by rfl) rfl rfl SS rfl rfl ?_; simp only [Act.put, n1, n2, n3]) | (refine zL (e.cs) 38 18 0 rwD szD (by rfl) rfl rfl SS rfl rfl rfl ?_; simp only [Act.put, n1, n2, n3]) | (refine z1 4 Tryz.isAgg4 0 (by rfl) rfl rfl SS rfl rfl ?_; simp only [Act.put, n1, n2, n3])))
    refine (unhide HC _ (tabs_below (unhide HT) (unhide SS).fr.below)).mono ?_
    rintro e0 X3 ⟨rfl, hb3⟩
    replace SS := hide ((unhide SS).on hb3)
    clear hb3
    simp only [Bool.false_eq_true, if_false]
    go_wp2_with (first | go_skip | ((with_reducible show wpList _ _ _ _ _ _); first | (refine zB 40 (OP.cs ⟨12, t, a, b, d, k, v, e, x, g⟩) (by rfl) rfl rfl rfl SS ?_; clear SS; intro X1 B1 SS; simp only [Act.put, n1, n2, n3]) | (refine z1 3 Tryz.isAgg3 0 (by rfl) rfl rfl SS rfl rfl ?_; simp only [Act.put, n1, n2, n3]) | (refine zL (e.cs) 38 18 0 rwD szD (by rfl) rfl rfl SS rfl rfl rfl ?_; simp only [Act.put, n1, n2, n3]) | (refine z1 4 Tryz.isAgg4 0 (by rfl) rfl rfl SS rfl rfl ?_; simp only [Act.put, n1, n2, n3])))
    go_ret
    exact ⟨by simp, (unhide SS).fr.below⟩
  · simp only [hg, if_true] at HC
    clear hg
    cases x
    · go_enter Tryz.func61, Tryz.ntmps61
      go_wp2_with (first | go_skip | ((with_reducible show wpList _ _ _ _ _ _); first | (refine zB 40 (OP.cs ⟨12, t, a, b, d, k, v, e, false, g⟩) (by rfl) rfl rfl rfl SS ?_; clear SS; intro X1 B1 SS; simp only [Act.put, n1, n2, n3]) | (refine z1 3 Tryz.isAgg3 0 (by rfl) rfl rfl SS rfl rfl ?_; simp only [Act.put, n1, n2, n3]) | (refine zL (e.cs) 38 18 0 rwD szD (by rfl) rfl rfl SS rfl rfl rfl ?_; simp only [Act.put, n1, n2, n3]) | (refine z1 4 Tryz.isAgg4 0 (by rfl) rfl rfl SS rfl rfl ?_; simp only [Act.put, n1, n2, n3])))
      refine (unhide HC _ (tabs_below (unhide HT) (unhide SS).fr.below)).mono ?_
      rintro e0 X3 ⟨rfl, hb3⟩
      replace SS := hide ((unhide SS).on hb3)
      clear hb3
      go_wp2_with (first | go_skip | ((with_reducible show wpList _ _ _ _ _ _); first | (refine zB 40 (OP.cs ⟨12, t, a, b, d, k, v, e, false, g⟩) (by rfl) rfl rfl rfl SS ?_; clear SS; intro X1 B1 SS; simp only [Act.put, n1, n2, n3]) | (refine z1 3 Tryz.isAgg3 0 (by rfl) rfl rfl SS rfl rfl ?_; simp only [Act.put, n1, n2, n3]) | (refine zL (e.cs) 38 18 0 rwD szD (by rfl) rfl rfl SS rfl rfl rfl ?_; simp only [Act.put, n1, n2, n3]) | (refine z1 4 Tryz.isAgg4 0 (by rfl) rfl rfl SS rfl rfl ?_; simp only [Act.put, n1, n2, n3])))
      go_ret
      exact ⟨by simp, (unhide SS).fr.below⟩
    · go_enter Tryz.func61, Tryz.ntmps61
      go_wp2_with (first | go_skip | ((with_reducible show wpList _ _ _ _ _ _); first | (refine zB 40 (OP.cs ⟨12, t, a, b, d, k, v, e, true, g⟩) (by rfl) rfl rfl rfl SS ?_; clear SS; intro X1 B1 SS; simp only [Act.put, n1, n2, n3]) | (refine z1 3 Tryz.isAgg3 0 (by rfl) rfl rfl SS rfl rfl ?_; simp only [Act.put, n1, n2, n3]) | (refine zL (e.cs) 38 18 0 rwD szD (by rfl) rfl rfl SS rfl rfl rfl ?_; simp only [Act.put, n1, n2, n3]) | (refine z1 4 Tryz.isAgg4 0 (by rfl) rfl rfl SS rfl rfl ?_; simp only [Act.put, n1, n2, n3])))
      refine (unhide HC _ (tabs_below (unhide HT) (unhide SS).fr.below)).mono ?_
      rintro e0 X3 ⟨rfl, hb3⟩
      replace SS := hide ((unhide SS).on hb3)
      clear hb3
      go_wp2_with (first | go_skip | ((with_reducible show wpList _ _ _ _ _ _); first | (refine zB 40 (OP.cs ⟨12, t, a, b, d, k, v, e, true, g⟩) (by rfl) rfl rfl rfl SS ?_; clear SS; intro X1 B1 SS; simp only [Act.put, n1, n2, n3]) | (refine z1 3 Tryz.isAgg3 0 (by rfl) rfl rfl SS rfl rfl ?_; simp only [Act.put, n1, n2, n3]) | (refine zL (e.cs) 38 18 0 rwD szD (by rfl) rfl rfl SS rfl rfl rfl ?_; simp only [Act.put, n1, n2, n3]) | (refine z1 4 Tryz.isAgg4 0 (by rfl) rfl rfl SS rfl rfl ?_; simp only [Act.put, n1, n2, n3])))
      refine (unhide HA _).mono ?_
      rintro e0 X4 ⟨rfl, hb4⟩
      replace SS := hide ((unhide SS).on hb4)
      clear hb4
      cases hac : accD e
      · go_wp2_with (first | go_skip | ((with_reducible show wpList _ _ _ _ _ _); first | (refine zB 40 (OP.cs ⟨12, t, a, b, d, k, v, e, true, g⟩) (by rfl) rfl rfl rfl SS ?_; clear SS; intro X1 B1 SS; simp only [Act.put, n1, n2, n3]) | (refine z1 3 Tryz.isAgg3 0 (by rfl) rfl rfl SS rfl rfl ?_; simp only [Act.put, n1, n2, n3]) | (refine zL (e.cs) 38 18 0 rwD szD (by rfl) rfl rfl SS rfl rfl rfl ?_; simp only [Act.put, n1, n2, n3]) | (refine z1 4 Tryz.isAgg4 0 (by rfl) rfl rfl SS rfl rfl ?_; simp only [Act.put, n1, n2, n3])))
        go_ret
        exact ⟨by simp [hac], (unhide SS).fr.below⟩
      · go_wp2_with (first | go_skip | ((with_reducible show wpList _ _ _ _ _ _); first | (refine zB 40 (OP.cs ⟨12, t, a, b, d, k, v, e, true, g⟩) (by rfl) rfl rfl rfl SS ?_; clear SS; intro X1 B1 SS; simp only [Act.put, n1, n2, n3]) | (refine z1 3 Tryz.isAgg3 0 (by rfl) rfl rfl SS rfl rfl ?_; simp only [Act.put, n1, n2, n3]) | (refine zL (e.cs) 38 18 0 rwD szD (by rfl) rfl rfl SS rfl rfl rfl ?_; simp only [Act.put, n1, n2, n3]) | (refine z1 4 Tryz.isAgg4 0 (by rfl) rfl rfl SS rfl rfl ?_; simp only [Act.put, n1, n2, n3])))
        go_ret
        exact ⟨by simp [hac], (unhide SS).fr.below⟩
theorem rest_any (o : OP) (hO : OkO o) (w : World) (hT : Lib.Utf8Tabs 1 2 w) : Calls Tryz.prog 61 #[o.agg] w fun e w' => e = .returned (.bool (rstV o)) ∧ Below w.heap.size w w' := by
  obtain ⟨c, t, a, b, d, k, v, e, x, g⟩ := o
  have h1 := hO.2.2
  dsimp only at h1
  rcases h1 with rfl | rfl | rfl | rfl | rfl | rfl | rfl
  · exact rest1 t a b d k v e x g w hT
  · exact rest3 t a b d k v e x g w
  · exact rest4 t a b d k v e x g w
  · exact rest7 t a b d k v e x g w
  · exact rest8 t a b d k v e x g w
  · exact rest10 t a b d k v e x g w
  · exact rest12 t a b d k v e x g w hO.1 hT
