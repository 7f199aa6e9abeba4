import Derived.Test.YtmgflhhealdfoaaGreatDoorRj
import Derived.Test.YtmgflhhealdfoaaGreatDoorRk
set_option linter.all false
namespace Go.Proofs.YtmgflhhealdfoaaGreatDoor
set_option maxHeartbeats 1000000
section
open Go Go.Proofs Go.Maps Go.RowKit FM
attribute [local go_sem] mm_GetOwnProperty mm_DefineOwnProperty mm_Get ta_caller ta_builder
def namedL (o : OP) : List VV := if o.c = 1 then [o.v] else if o.c = 12 then [o.e.v, o.e.g, o.e.s] else []
def NamePost (w : World) (l : List VV) (e : Ending) (X : World) : Prop := ∃ A c, e = .returned (.slice A l.length c) ∧ ReadsV X A l ∧ Below w.heap.size w X
section
variable {ops : Array Oper} {rest : List Oper} {Q : Exit → Act → World → Prop} {w w0 : World} {a : Act} {o : Oper} {E : List Nat} {L : List Ob}
theorem bsV3 {v0 v1 v2 : VV} {x0 x1 x2 : Operand} (hw : Region.wanted o (yielded ops a.tmps) = true) (ho : o.op = .buildSlice 63 3 #[(0, x0), (1, x1), (2, x2)]) (h0 : a.eval x0 = .agg v0.cs.toArray) (h1 : a.eval x1 = .agg v1.cs.toArray) (h2 : a.eval x2 = .agg v2.cs.toArray) (hL : Sy w0 w E L)
    (h : ∀ X B, Sy w0 X E (L ++ [boxO B ([v0, v1, v2].flatMap VV.cs)]) → wpList Tryz.prog ops Q rest (a.put o.dst (.slice (some ⟨B, 0, none⟩) 3 3)) X) : wpList Tryz.prog ops Q (o :: rest) a w := by
  refine BigFrame.wpList_want hw fun K hK => ?_
  have hP := hK _ _ (h _ _ (hL.box ([v0, v1, v2].flatMap VV.cs) 24 (Nat.succ_pos _)))
  unfold Oper.wp
  rw [ex_bsV3 ho h0 h1 h2]
  exact hP
end
set_option maxRecDepth 100000 in
theorem named1 (t a b d : Int) (k : KK) (v : VV) (e : DD) (x g : Bool) (w : World) : Calls Tryz.prog 54 #[OP.agg ⟨1, t, a, b, d, k, v, e, x, g⟩] w (NamePost w [v]) := by
  have SS := hide (Sy.nil w [])
  simp only [pagg]
  go_enter Tryz.func54, Tryz.ntmps54
  go_wp2_with (first | go_skip | ((with_reducible show wpList _ _ _ _ _ _); first | (refine zB 40 (OP.cs ⟨1, t, a, b, d, k, v, e, x, g⟩) (by rfl) rfl rfl rfl SS ?_; clear SS; intro X1 B1 SS; simp only [Act.put, n1, n2, n3]) | (refine z1 3 Tryz.isAgg3 0 (by rfl) rfl rfl SS rfl rfl ?_; simp only [Act.put, n1, n2, n3]) | (refine zL (v.cs) 24 5 0 rwV szV (by rfl) rfl rfl SS rfl rfl rfl ?_; simp only [Act.put, n1, n2, n3]) | ((refine bsV1 (v := v) (by rfl) rfl rfl (unhide SS) ?_); intro X6 B6 S6; replace SS := hide S6; clear S6; simp only [Act.put, n1, n2, n3])))
  go_ret
  exact ⟨_, _, rfl, reads_holds (l := [v]) ((unhide SS).hold 1 rfl), (unhide SS).fr.below⟩
set_option maxRecDepth 100000 in
theorem named3 (t a b d : Int) (k : KK) (v : VV) (e : DD) (x g : Bool) (w : World) : Calls Tryz.prog 54 #[OP.agg ⟨3, t, a, b, d, k, v, e, x, g⟩] w (NamePost w []) := by
  have SS := hide (Sy.nil w [])
  simp only [pagg]
  go_enter Tryz.func54, Tryz.ntmps54
  go_wp2_with (first | go_skip | ((with_reducible show wpList _ _ _ _ _ _); first | (refine zB 40 (OP.cs ⟨3, t, a, b, d, k, v, e, x, g⟩) (by rfl) rfl rfl rfl SS ?_; clear SS; intro X1 B1 SS; simp only [Act.put, n1, n2, n3]) | (refine z1 3 Tryz.isAgg3 0 (by rfl) rfl rfl SS rfl rfl ?_; simp only [Act.put, n1, n2, n3])))
  go_ret
  exact ⟨none, 0, rfl, fun j n hn => by simp at hn, (unhide SS).fr.below⟩
set_option maxRecDepth 100000 in
theorem named4 (t a b d : Int) (k : KK) (v : VV) (e : DD) (x g : Bool) (w : World) : Calls Tryz.prog 54 #[OP.agg ⟨4, t, a, b, d, k, v, e, x, g⟩] w (NamePost w []) := by
  have SS := hide (Sy.nil w [])
  simp only [pagg]
  go_enter Tryz.func54, Tryz.ntmps54
  go_wp2_with (first | go_skip | ((with_reducible show wpList _ _ _ _ _ _); first | (refine zB 40 (OP.cs ⟨4, t, a, b, d, k, v, e, x, g⟩) (by rfl) rfl rfl rfl SS ?_; clear SS; intro X1 B1 SS; simp only [Act.put, n1, n2, n3]) | (refine z1 3 Tryz.isAgg3 0 (by rfl) rfl rfl SS rfl rfl ?_; simp only [Act.put, n1, n2, n3])))
  go_ret
  exact ⟨none, 0, rfl, fun j n hn => by simp at hn, (unhide SS).fr.below⟩
set_option maxRecDepth 100000 in
theorem named7 (t a b d : Int) (k : KK) (v : VV) (e : DD) (x g : Bool) (w : World) : Calls Tryz.prog 54 #[OP.agg ⟨7, t, a, b, d, k, v, e, x, g⟩] w (NamePost w []) := by
  have SS := hide (Sy.nil w [])
  simp only [pagg]
  go_enter Tryz.func54, Tryz.ntmps54
  go_wp2_with (first | go_skip | ((with_reducible show wpList _ _ _ _ _ _); first | (refine zB 40 (OP.cs ⟨7, t, a, b, d, k, v, e, x, g⟩) (by rfl) rfl rfl rfl SS ?_; clear SS; intro X1 B1 SS; simp only [Act.put, n1, n2, n3]) | (refine z1 3 Tryz.isAgg3 0 (by rfl) rfl rfl SS rfl rfl ?_; simp only [Act.put, n1, n2, n3])))
  go_ret
  exact ⟨none, 0, rfl, fun j n hn => by simp at hn, (unhide SS).fr.below⟩
set_option maxRecDepth 100000 in
theorem named8 (t a b d : Int) (k : KK) (v : VV) (e : DD) (x g : Bool) (w : World) : Calls Tryz.prog 54 #[OP.agg ⟨8, t, a, b, d, k, v, e, x, g⟩] w (NamePost w []) := by
  have SS := hide (Sy.nil w [])
  simp only [pagg]
  go_enter Tryz.func54, Tryz.ntmps54
  go_wp2_with (first | go_skip | ((with_reducible show wpList _ _ _ _ _ _); first | (refine zB 40 (OP.cs ⟨8, t, a, b, d, k, v, e, x, g⟩) (by rfl) rfl rfl rfl SS ?_; clear SS; intro X1 B1 SS; simp only [Act.put, n1, n2, n3]) | (refine z1 3 Tryz.isAgg3 0 (by rfl) rfl rfl SS rfl rfl ?_; simp only [Act.put, n1, n2, n3])))
  go_ret
  exact ⟨none, 0, rfl, fun j n hn => by simp at hn, (unhide SS).fr.below⟩
set_option maxRecDepth 100000 in
theorem named10 (t a b d : Int) (k : KK) (v : VV) (e : DD) (x g : Bool) (w : World) : Calls Tryz.prog 54 #[OP.agg ⟨10, t, a, b, d, k, v, e, x, g⟩] w (NamePost w []) := by
  have SS := hide (Sy.nil w [])
  simp only [pagg]
  go_enter Tryz.func54, Tryz.ntmps54
  go_wp2_with (first | go_skip | ((with_reducible show wpList _ _ _ _ _ _); first | (refine zB 40 (OP.cs ⟨10, t, a, b, d, k, v, e, x, g⟩) (by rfl) rfl rfl rfl SS ?_; clear SS; intro X1 B1 SS; simp only [Act.put, n1, n2, n3]) | (refine z1 3 Tryz.isAgg3 0 (by rfl) rfl rfl SS rfl rfl ?_; simp only [Act.put, n1, n2, n3])))
  go_ret
  exact ⟨none, 0, rfl, fun j n hn => by simp at hn, (unhide SS).fr.below⟩
set_option maxRecDepth 100000 in
theorem named12 (t a b d : Int) (k : KK) (v : VV) (e : DD) (x g : Bool) (w : World) : Calls Tryz.prog 54 #[OP.agg ⟨12, t, a, b, d, k, v, e, x, g⟩] w (NamePost w [e.v, e.g, e.s]) := by
  have SS := hide (Sy.nil w [])
  simp only [pagg]
  go_enter Tryz.func54, Tryz.ntmps54
  go_wp2_with (first | go_skip | ((with_reducible show wpList _ _ _ _ _ _); first | (refine zB 40 (OP.cs ⟨12, t, a, b, d, k, v, e, x, g⟩) (by rfl) rfl rfl rfl SS ?_; clear SS; intro X1 B1 SS; simp only [Act.put, n1, n2, n3]) | (refine z1 3 Tryz.isAgg3 0 (by rfl) rfl rfl SS rfl rfl ?_; simp only [Act.put, n1, n2, n3]) | (refine zL (e.v.cs) 24 5 0 rwV szV (by rfl) rfl rfl SS rfl rfl rfl ?_; simp only [Act.put, n1, n2, n3]) | (refine zL (e.g.cs) 24 5 0 rwV szV (by rfl) rfl rfl SS rfl rfl rfl ?_; simp only [Act.put, n1, n2, n3]) | (refine zL (e.s.cs) 24 5 0 rwV szV (by rfl) rfl rfl SS rfl rfl rfl ?_; simp only [Act.put, n1, n2, n3]) | ((refine bsV3 (v0 := e.v) (v1 := e.g) (v2 := e.s) (by rfl) rfl rfl rfl rfl (unhide SS) ?_); intro X6 B6 S6; replace SS := hide S6; clear S6; simp only [Act.put, n1, n2, n3])))
  go_ret
  exact ⟨_, _, rfl, reads_holds (l := [e.v, e.g, e.s]) ((unhide SS).hold 1 rfl), (unhide SS).fr.below⟩
theorem named_any (o : OP) (h1 : OkC o.c) (w : World) : Calls Tryz.prog 54 #[o.agg] w (NamePost w (namedL o)) := by
  obtain ⟨c, t, a, b, d, k, v, e, x, g⟩ := o
  dsimp only at h1
  rcases h1 with rfl | rfl | rfl | rfl | rfl | rfl | rfl
  · exact named1 t a b d k v e x g w
  · exact named3 t a b d k v e x g w
  · exact named4 t a b d k v e x g w
  · exact named7 t a b d k v e x g w
  · exact named8 t a b d k v e x g w
  · exact named10 t a b d k v e x g w
  · exact named12 t a b d k v e x g w
def clbB (h : HP) (v : VV) : Bool := decide (checkE h.l.length v = 0) && (v.k == 7 && callB h v.i)
theorem ex_eqE_y {o : Oper} {a : Act} {w : World} {x y : Operand} {n m : Int} (ho : o.op = .binOp .eql 29 x y 29) (hx : a.eval x = .int .i64 n) (hc : a.eval y = .int .i64 m) (h : n = m) : (execOp a.eval o).run Tryz.prog w = .ok (.value (.bool true)) w := by
  unfold execOp
  simp only [ho, hx, hc]
  simp [go_sem, eqGuard, h]
theorem ex_eqE_n {o : Oper} {a : Act} {w : World} {x y : Operand} {n m : Int} (ho : o.op = .binOp .eql 29 x y 29) (hx : a.eval x = .int .i64 n) (hc : a.eval y = .int .i64 m) (h : n ≠ m) : (execOp a.eval o).run Tryz.prog w = .ok (.value (.bool false)) w := by
  unfold execOp
  simp only [ho, hx, hc]
  simp [go_sem, eqGuard, h]
set_option maxRecDepth 100000 in
theorem Callable_h (h : HP) (v : VV) (w : World) (H : h.Is w) (hT : Lib.Utf8Tabs 1 2 w) (hl : h.l.length ≤ 65536) : Calls Tryz.prog 74 #[.pointer (some ⟨h.b, 0, none⟩), v.agg] w fun e w' => e = .returned (.bool (clbB h v)) ∧ Below w.heap.size w w' := by
  unfold clbB
  have SS := hide (Sy.nil w [])
  rw [vagg]
  obtain ⟨c, hc⟩ : ∃ c, checkE h.l.length v = c := ⟨_, rfl⟩
  by_cases h0 : c = 0
  · have e1 : decide (checkE h.l.length v = 0) = true := decide_eq_true (hc.trans h0)
    rw [e1]
    cases hk : (v.k == 7)
    · go_enter Tryz.func74, Tryz.ntmps74
      go_wp2_with (first | go_skip | ((with_reducible show wpList _ _ _ _ _ _); first | (refine zB 24 (v.cs) (by rfl) rfl rfl rfl SS ?_; clear SS; intro Xa Ba SS; simp only [Act.put, n1, n2, n3]) | (refine zL (v.cs) 24 5 0 rwV szV (by rfl) rfl rfl SS rfl rfl rfl ?_; simp only [Act.put, n1, n2, n3]) | (refine z1 3 Tryz.isAgg3 0 (by rfl) rfl rfl SS rfl rfl ?_; simp only [Act.put, n1, n2, n3])))
      have HC := check_h h v _ (H.on (unhide SS).fr.below) (tabs_below hT (unhide SS).fr.below)
      rw [vagg] at HC
      refine HC.mono ?_
      rintro e X5 ⟨rfl, hb5⟩
      replace SS := hide ((unhide SS).on hb5)
      clear hb5 HC
      rw [hc]
      go_wp2_with (first | go_skip | ((with_reducible show wpList _ _ _ _ _ _); first | (refine zB 24 (v.cs) (by rfl) rfl rfl rfl SS ?_; clear SS; intro Xa Ba SS; simp only [Act.put, n1, n2, n3]) | (refine zL (v.cs) 24 5 0 rwV szV (by rfl) rfl rfl SS rfl rfl rfl ?_; simp only [Act.put, n1, n2, n3]) | (refine z1 3 Tryz.isAgg3 0 (by rfl) rfl rfl SS rfl rfl ?_; simp only [Act.put, n1, n2, n3]) | (refine rd (by rfl) (ex_eqE_y rfl rfl rfl h0) ?_; simp only [Act.put, n1, n2, n3]) | (refine rd (by rfl) (ex_eqI rfl rfl rfl hk) ?_; simp only [Act.put, n1, n2, n3]) | (refine rd (by rfl) (ex_eqE_n rfl rfl rfl hz2) ?_; simp only [Act.put, n1, n2, n3])))
      go_ret
      exact ⟨rfl, (unhide SS).fr.below⟩
    · go_enter Tryz.func74, Tryz.ntmps74
      go_wp2_with (first | go_skip | ((with_reducible show wpList _ _ _ _ _ _); first | (refine zB 24 (v.cs) (by rfl) rfl rfl rfl SS ?_; clear SS; intro Xa Ba SS; simp only [Act.put, n1, n2, n3]) | (refine zL (v.cs) 24 5 0 rwV szV (by rfl) rfl rfl SS rfl rfl rfl ?_; simp only [Act.put, n1, n2, n3]) | (refine z1 3 Tryz.isAgg3 0 (by rfl) rfl rfl SS rfl rfl ?_; simp only [Act.put, n1, n2, n3])))
      have HC := check_h h v _ (H.on (unhide SS).fr.below) (tabs_below hT (unhide SS).fr.below)
      rw [vagg] at HC
      refine HC.mono ?_
      rintro e X5 ⟨rfl, hb5⟩
      replace SS := hide ((unhide SS).on hb5)
      clear hb5 HC
      rw [hc]
      go_wp2_with (first | go_skip | ((with_reducible show wpList _ _ _ _ _ _); first | (refine zB 24 (v.cs) (by rfl) rfl rfl rfl SS ?_; clear SS; intro Xa Ba SS; simp only [Act.put, n1, n2, n3]) | (refine zL (v.cs) 24 5 0 rwV szV (by rfl) rfl rfl SS rfl rfl rfl ?_; simp only [Act.put, n1, n2, n3]) | (refine z1 3 Tryz.isAgg3 0 (by rfl) rfl rfl SS rfl rfl ?_; simp only [Act.put, n1, n2, n3]) | (refine rd (by rfl) (ex_eqE_y rfl rfl rfl h0) ?_; simp only [Act.put, n1, n2, n3]) | (refine rd (by rfl) (ex_eqI rfl rfl rfl hk) ?_; simp only [Act.put, n1, n2, n3]) | (refine rd (by rfl) (ex_eqE_n rfl rfl rfl hz2) ?_; simp only [Act.put, n1, n2, n3])))
      refine (callable_h h v.i _ (H.on (unhide SS).fr.below) hl).mono ?_
      rintro e X6 ⟨rfl, rfl⟩
      obtain ⟨z, hz⟩ : ∃ z, callB h v.i = z := ⟨_, rfl⟩
      rw [hz]
      cases z
      · have hz2 : kindE false ≠ 0 := by decide
        go_wp2_with (first | go_skip | ((with_reducible show wpList _ _ _ _ _ _); first | (refine zB 24 (v.cs) (by rfl) rfl rfl rfl SS ?_; clear SS; intro Xa Ba SS; simp only [Act.put, n1, n2, n3]) | (refine zL (v.cs) 24 5 0 rwV szV (by rfl) rfl rfl SS rfl rfl rfl ?_; simp only [Act.put, n1, n2, n3]) | (refine z1 3 Tryz.isAgg3 0 (by rfl) rfl rfl SS rfl rfl ?_; simp only [Act.put, n1, n2, n3]) | (refine rd (by rfl) (ex_eqE_y rfl rfl rfl h0) ?_; simp only [Act.put, n1, n2, n3]) | (refine rd (by rfl) (ex_eqI rfl rfl rfl hk) ?_; simp only [Act.put, n1, n2, n3]) | (refine rd (by rfl) (ex_eqE_n rfl rfl rfl hz2) ?_; simp only [Act.put, n1, n2, n3])))
        go_ret
        exact ⟨by rw [hz]; rfl, (unhide SS).fr.below⟩
      · go_wp2
        go_ret
        exact ⟨by rw [hz]; rfl, (unhide SS).fr.below⟩
  · have e1 : decide (checkE h.l.length v = 0) = false := decide_eq_false (fun h => h0 (hc.symm.trans h))
    rw [e1]
    go_enter Tryz.func74, Tryz.ntmps74
    go_wp2_with (first | go_skip | ((with_reducible show wpList _ _ _ _ _ _); first | (refine zB 24 (v.cs) (by rfl) rfl rfl rfl SS ?_; clear SS; intro Xa Ba SS; simp only [Act.put, n1, n2, n3]) | (refine zL (v.cs) 24 5 0 rwV szV (by rfl) rfl rfl SS rfl rfl rfl ?_; simp only [Act.put, n1, n2, n3]) | (refine z1 3 Tryz.isAgg3 0 (by rfl) rfl rfl SS rfl rfl ?_; simp only [Act.put, n1, n2, n3])))
    have HC := check_h h v _ (H.on (unhide SS).fr.below) (tabs_below hT (unhide SS).fr.below)
    rw [vagg] at HC
    refine HC.mono ?_
    rintro e X5 ⟨rfl, hb5⟩
    replace SS := hide ((unhide SS).on hb5)
    clear hb5 HC
    rw [hc]
    go_wp2_with (first | go_skip | ((with_reducible show wpList _ _ _ _ _ _); first | (refine zB 24 (v.cs) (by rfl) rfl rfl rfl SS ?_; clear SS; intro Xa Ba SS; simp only [Act.put, n1, n2, n3]) | (refine zL (v.cs) 24 5 0 rwV szV (by rfl) rfl rfl SS rfl rfl rfl ?_; simp only [Act.put, n1, n2, n3]) | (refine z1 3 Tryz.isAgg3 0 (by rfl) rfl rfl SS rfl rfl ?_; simp only [Act.put, n1, n2, n3]) | (refine rd (by rfl) (ex_eqE_n rfl rfl rfl h0) ?_; simp only [Act.put, n1, n2, n3])))
    go_ret
    exact ⟨rfl, (unhide SS).fr.below⟩
def dumbB (h : HP) (v : VV) : Bool := (v.k == 7) && !clbB h v
set_option maxRecDepth 100000 in
theorem dumb_h (h : HP) (v : VV) (w : World) (H : h.Is w) (hT : Lib.Utf8Tabs 1 2 w) (hl : h.l.length ≤ 65536) : Calls Tryz.prog 55 #[.pointer (some ⟨h.b, 0, none⟩), v.agg] w fun e w' => e = .returned (.bool (dumbB h v)) ∧ Below w.heap.size w w' := by
  unfold dumbB
  have SS := hide (Sy.nil w [])
  rw [vagg]
  obtain ⟨z, hz⟩ : ∃ z, clbB h v = z := ⟨_, rfl⟩
  rw [hz]
  cases hk : (v.k == 7)
  · go_enter Tryz.func55, Tryz.ntmps55
    go_wp2_with (first | go_skip | ((with_reducible show wpList _ _ _ _ _ _); first | (refine zB 24 (v.cs) (by rfl) rfl rfl rfl SS ?_; clear SS; intro Xa Ba SS; simp only [Act.put, n1, n2, n3]) | (refine zL (v.cs) 24 5 0 rwV szV (by rfl) rfl rfl SS rfl rfl rfl ?_; simp only [Act.put, n1, n2, n3]) | (refine z1 3 Tryz.isAgg3 0 (by rfl) rfl rfl SS rfl rfl ?_; simp only [Act.put, n1, n2, n3]) | (refine rd (by rfl) (ex_eqI rfl rfl rfl hk) ?_; simp only [Act.put, n1, n2, n3])))
    go_ret
    exact ⟨rfl, (unhide SS).fr.below⟩
  · go_enter Tryz.func55, Tryz.ntmps55
    go_wp2_with (first | go_skip | ((with_reducible show wpList _ _ _ _ _ _); first | (refine zB 24 (v.cs) (by rfl) rfl rfl rfl SS ?_; clear SS; intro Xa Ba SS; simp only [Act.put, n1, n2, n3]) | (refine zL (v.cs) 24 5 0 rwV szV (by rfl) rfl rfl SS rfl rfl rfl ?_; simp only [Act.put, n1, n2, n3]) | (refine z1 3 Tryz.isAgg3 0 (by rfl) rfl rfl SS rfl rfl ?_; simp only [Act.put, n1, n2, n3]) | (refine rd (by rfl) (ex_eqI rfl rfl rfl hk) ?_; simp only [Act.put, n1, n2, n3])))
    have HC := Callable_h h v _ (H.on (unhide SS).fr.below) (tabs_below hT (unhide SS).fr.below) hl
    rw [vagg, hz] at HC
    refine HC.mono ?_
    rintro e X5 ⟨rfl, hb5⟩
    replace SS := hide ((unhide SS).on hb5)
    clear hb5 HC
    go_wp2
    go_ret
    exact ⟨rfl, (unhide SS).fr.below⟩
theorem Sy.addRow {w X Y : World} {E : List Nat} {L : List Ob} {base e s n : Nat} {v : Value} {xs : List Value} (S : Sy w X E L) (hO : Y.ownsRow X.heap.size e s v n xs) (k : Below X.heap.size X Y) (hb : base ≤ X.heap.size) : Sy w Y E (L ++ [rowO base e s v n xs]) := S.add (rowO_ok _ _ _ _ _ _) (own_mono hO hb) k (fun b hb' => (World.ownsRow.lt hO b (by simpa [rowO] using hb')).1)
section
variable {ops : Array Oper} {rest : List Oper} {Q : Exit → Act → World → Prop} {w w0 : World} {a : Act} {o : Oper} {E : List Nat} {L : List Ob}
/-- An empty slice. -/
theorem emS {t e : TypeId} {size : Nat} (base : Nat) (hw : Region.wanted o (yielded ops a.tmps) = true) (ho : o.op = .buildSlice t 0 #[]) (hr : ∀ w, (Instr.buildSlice t 0 #[]).run Tryz.prog w = .ok (.slice (some ⟨w.heap.size, 0, none⟩) 0 0) (w.alloc (Obj.cells #[] e))) (hL : Sy w0 w E L) (hb : base ≤ w.heap.size)
    (h : ∀ X B, Sy w0 X E (L ++ [rowO base e size (.slice (some ⟨B, 0, none⟩) 0 0) 0 []]) → wpList Tryz.prog ops Q rest (a.put o.dst (.slice (some ⟨B, 0, none⟩) 0 0)) X) : wpList Tryz.prog ops Q (o :: rest) a w := by
  refine BigFrame.wpList_want hw fun K hK => ?_
  have hown : (w.alloc (Obj.cells #[] e)).ownsRow w.heap.size e size (.slice (some ⟨w.heap.size, 0, none⟩) 0 0) 0 [] := ⟨by simp, .inr ⟨w.heap.size, 0, #[], rfl, Nat.le_refl _, (MapKept.heap_alloc w _).1, Nat.le_refl _, Nat.zero_le _, by simp, by simp⟩⟩
  have hP := hK _ _ (h (w.alloc (Obj.cells #[] e)) w.heap.size (Sy.addRow hL hown ((Below.refl _ _).alloc (Nat.le_refl _) _) hb))
  have he : (execOp a.eval o).run Tryz.prog w = .ok (.value (.slice (some ⟨w.heap.size, 0, none⟩) 0 0)) (w.alloc (Obj.cells #[] e)) := by
    unfold execOp
    simp only [ho, List.map_toArray, List.map_nil]
    simp [hr w]
  unfold Oper.wp
  rw [he]
  exact hP
/-- append of what is read elsewhere. -/
theorem apA {t e : TypeId} {size bytes k m c base : Nat} {z v : Value} {xs news : List Value} {A : Option Addr} {s x : Operand} (i : Nat) (hw : Region.wanted o (yielded ops a.tmps) = true) (ho : o.op = .call { callee := .builtin .append, args := #[s, x], argTypes := #[t, t] }) (hs : a.eval s = v) (hx : a.eval x = .slice A m c)
    (ht : Tryz.prog.underlying t = some (.slice e)) (hi : (Tryz.prog.info? e).map (fun i => (i.zero, i.size, i.bytes)) = some (some z, size, bytes)) (hz : z.cells.size = size) (hsz : 0 < size) (hL : Sy w0 w E L) (hi1 : L[i]? = some (rowO base e size v k xs)) (hA : A = none → m = 0 ∧ c = 0) (hl : news.length = m * size)
    (hnews : ∀ ad, A = some ad → ∀ j u, news[j]? = some u → w.cell? (ad.add j) = some u) (h1 : ∀ u ∈ news, u.oneCell' = true)
    (hn : k + m ≤ 4000000) (hby : bytes ≤ 10000) (hbase : base ≤ w.heap.size)
    (h : ∀ A c X, Sy w0 X E (L.set i (rowO base e size (.slice A (k + m) c) (k + m) (xs ++ news))) → wpList Tryz.prog ops Q rest (a.put o.dst (.slice A (k + m) c)) X) : wpList Tryz.prog ops Q (o :: rest) a w := by
  obtain ⟨i0, hi, hz0, hz1, hz2⟩ := info_parts hi
  have hown : w.ownsRow base e size v k xs := hL.get i hi1
  refine BigFrame.wpList_want hw fun K hK => ?_
  cases A with
  | none =>
    obtain ⟨rfl, rfl⟩ := hA rfl
    obtain rfl : news = [] := List.length_eq_zero_iff.1 (by simpa using hl)
    have hrun := run_append_owned_none (P := Tryz.prog) (w := w) base t o.type e i0 size ht hi v k xs hown
    obtain ⟨A', c', rfl⟩ := own_form hown
    have hP := hK _ _ (h A' c' w (by
      simp only [Nat.add_zero, List.append_nil]
      exact hL.row i hi1 hown (World.grownBy.refl _ _) (.inl rfl)))
    simp only [Nat.add_zero] at hP
    unfold Oper.wp
    simp [execOp, ho, resolve, invoke, builtin, hs, hx, hrun, Result.andThen]
    exact hP
  | some ad =>
    obtain ⟨v', w', hrun, h2, h3, h4⟩ := append_fresh w base t o.type e i0 _ size bytes ht hi hz0 hz1 hz2 hz hsz v k xs hown ad m c news hl (hnews ad rfl) h1 (by unfold maxLen; omega) (Nat.le_trans (Nat.mul_le_mul hn hby) (by decide)) hbase
    obtain ⟨A', c', rfl⟩ := own_form h2
    have hP := hK _ _ (h A' c' w' (hL.row i hi1 h2 h3 h4))
    unfold Oper.wp
    simp [execOp, ho, resolve, invoke, builtin, hs, hx, hrun, Result.andThen]
    exact hP
theorem apA0 {t e : TypeId} {size bytes m c base : Nat} {z v : Value} {news : List Value} {A : Option Addr} {s x : Operand} (i : Nat) (hw : Region.wanted o (yielded ops a.tmps) = true) (ho : o.op = .call { callee := .builtin .append, args := #[s, x], argTypes := #[t, t] }) (hs : a.eval s = v) (hx : a.eval x = .slice A m c)
    (ht : Tryz.prog.underlying t = some (.slice e)) (hi : (Tryz.prog.info? e).map (fun i => (i.zero, i.size, i.bytes)) = some (some z, size, bytes)) (hz : z.cells.size = size) (hsz : 0 < size) (hL : Sy w0 w E L) (hi1 : L[i]? = some (rowO base e size v 0 [])) (hA : A = none → m = 0 ∧ c = 0) (hl : news.length = m * size)
    (hnews : ∀ ad, A = some ad → ∀ j u, news[j]? = some u → w.cell? (ad.add j) = some u) (h1 : ∀ u ∈ news, u.oneCell' = true)
    (hn : m ≤ 4000000) (hby : bytes ≤ 10000) (hbase : base ≤ w.heap.size)
    (h : ∀ A c X, Sy w0 X E (L.set i (rowO base e size (.slice A m c) m news)) → wpList Tryz.prog ops Q rest (a.put o.dst (.slice A m c)) X) : wpList Tryz.prog ops Q (o :: rest) a w :=
  apA i hw ho hs hx ht hi hz hsz hL hi1 hA hl hnews h1 (by omega) hby hbase (fun A c X hS => by simp only [Nat.zero_add, List.nil_append] at hS ⊢; exact h A c X hS)
end
theorem eqlSx0 {P : Program} (w : World) (d : Nat) (t e : TypeId) (p : Option Addr) (n c : Nat) (h : P.underlying t = some (.slice e)) : (Op.equalIn (d + 1) t (.slice p n c) (.slice none 0 0)).run P w = .ok p.isNone w := by
  cases p <;> simp [Op.equalIn, run_underlying h]
theorem eqlSx {P : Program} (w : World) (t e : TypeId) (p : Option Addr) (n c : Nat) (h : P.underlying t = some (.slice e)) : (binOp .eql t (.slice p n c) (.slice none 0 0)).run P w = .ok (.bool p.isNone) w := by
  simp only [binOp]
  simp [show Op.equal t (.slice p n c) (.slice none 0 0) = Op.equalIn (9999 + 1) t (.slice p n c) (.slice none 0 0) from rfl, eqlSx0 w 9999 t e p n c h]
theorem ex_oNil {o : Oper} {a : Act} {w : World} {x : Operand} {p : Option Addr} {n c : Nat} (ho : o.op = .binOp .eql 41 x (.const (.slice none 0 0)) 41) (hx : a.eval x = .slice p n c) : (execOp a.eval o).run Tryz.prog w = .ok (.value (.bool p.isNone)) w := by
  have e := eqlSx (P := Tryz.prog) w 41 40 p n c Tryz.underlying41
  unfold execOp
  simp only [ho, hx, show a.eval (.const (.slice none 0 0)) = .slice none 0 0 from rfl]
  simp [e, eqGuard]
theorem noneO (w : World) : (Instr.buildSlice 41 0 #[]).run Tryz.prog w = .ok (.slice (some ⟨w.heap.size, 0, none⟩) 0 0) (w.alloc (Obj.cells #[] 40)) := by kernel_rfl
def zerO : OP := ⟨0, 0, 0, 0, 0, ⟨⟨#[]⟩, 0⟩, zeroV, zeroD, false, false⟩
theorem infPo : (Tryz.prog.info? 40).map (fun i => (i.zero, i.size, i.bytes)) = some (some zerO.agg, 32, 288) := by kernel_rfl
theorem flatO_one (l : List OP) : ∀ u ∈ l.flatMap OP.cs, u.oneCell' = true := by
  intro u hu
  obtain ⟨o, -, ho⟩ := List.mem_flatMap.1 hu
  exact pcs_one o u ho
theorem readsO_holds {w : World} {B : Nat} {l : List OP} (h : Holds w B (l.flatMap OP.cs)) (hO : ∀ o ∈ l, OkO o) : ReadsO w (some ⟨B, 0, none⟩) l := fun j v hj => by
  have hlt := (List.getElem?_eq_some_iff.1 hj).1
  have hv := (List.getElem?_eq_some_iff.1 hj).2
  have hlen : (l.flatMap OP.cs).length = l.length * 32 := flat_len OP.cs 32 (fun _ => rfl) l
  refine ⟨hO v (List.mem_of_getElem? hj), B, 0, rfl, h.lt (by omega), fun t u hu => ?_⟩
  have ht : t < 32 := by have := (List.getElem?_eq_some_iff.1 hu).1; simpa [pcs_length] using this
  have h2 := flat_get OP.cs 32 (fun _ => rfl) l j t hlt ht
  rw [hv, hu] at h2
  have := h.cell (j * 32 + t) h2
  rw [Nat.zero_add]
  exact this
set_option maxRecDepth 100000 in
theorem cloneO (B c : Nat) (l : List OP) (w : World) (hB : Holds w B (l.flatMap OP.cs)) (hlt : B < w.heap.size) (hl : l.length ≤ 256) : Calls Tryz.prog 29 #[.slice (some ⟨B, 0, none⟩) l.length c] w fun e w' => ∃ v', e = .returned v' ∧ w'.ownsRow w.heap.size 40 32 v' l.length (l.flatMap OP.cs) ∧ Below w.heap.size w w' := by
  have SS := hide (Sy.nil w [])
  have HL := hide (show l.length ≤ 4000000 by omega)
  have HS : Hid (∀ X, Below w.heap.size w X → ∀ ad, some (⟨B, 0, none⟩ : Addr) = some ad → ∀ j v, (l.flatMap OP.cs)[j]? = some v → X.cell? (ad.add j) = some v) := hide (by
    rintro X k ad hd j v hv
    cases hd
    rw [Addr.add_mid]
    have h1 := k.block B hlt
    have h2 := hB.cell j hv
    unfold World.cell? at h2 ⊢
    dsimp only at h2 ⊢
    rw [h1]
    simpa using h2)
  clear hB hlt hl
  go_enter Tryz.func29, Tryz.ntmps29
  go_wp2_with (first | go_skip | ((with_reducible show wpList _ _ _ _ _ _); first | (refine rd (by rfl) (ex_oNil rfl rfl) ?_; simp only [Act.put, n1, n2, n3]) | ((refine emS (t := 41) (e := 40) (size := 32) w.heap.size (by rfl) rfl noneO (unhide SS) (unhide SS).fr.size ?_); intro Xe Be S0; replace SS := hide S0; clear S0; simp only [Act.put, n1, n2, n3]) | ((refine apA0 (t := 41) (e := 40) (size := 32) (bytes := 288) (z := zerO.agg) (news := l.flatMap OP.cs) 0 (by rfl) rfl rfl rfl Tryz.underlying41 infPo rfl (by decide) (unhide SS) rfl (fun h => by cases h) (flat_len OP.cs 32 (fun _ => rfl) l) (unhide HS _ (unhide SS).fr.below) (flatO_one l) (unhide HL) (by decide) (unhide SS).fr.size ?_); intro A1 c1 X1 S0; replace SS := hide S0; clear S0; simp only [Act.put, n1, n2, n3])))
  go_ret
  exact ⟨_, rfl, (unhide SS).get 0 rfl, (unhide SS).fr.below⟩
theorem ex_bN {o : Oper} {a : Act} {w : World} (t : TypeId) (ht : t = 105 ∨ t = 107) (ho : o.op = .build t #[]) : (execOp a.eval o).run Tryz.prog w = .ok (.value (.agg #[])) w := by
  have e : (Instr.build t #[]).run Tryz.prog w = .ok (.agg #[]) w := by rcases ht with rfl | rfl <;> kernel_rfl
  unfold execOp
  simp only [ho]
  simp [e]
def fm (ctor : Bool) : Nat := if ctor then 2 else 1
set_option maxRecDepth 100000 in
theorem methods_any (b : Bool) (w : World) : Calls Tryz.prog 28 #[.bool b] w fun e w' => e = .returned (.iface (mt (fm b)) (.agg #[])) ∧ w' = w := by
  cases b
  · go_enter Tryz.func28, Tryz.ntmps28
    go_wp2_with (first | go_skip | ((with_reducible show wpList _ _ _ _ _ _); first | (refine rd (by rfl) (ex_bN 105 (.inl rfl) rfl) ?_; simp only [Act.put, n1, n2, n3])))
    go_ret
    exact ⟨rfl, rfl⟩
  · go_enter Tryz.func28, Tryz.ntmps28
    go_wp2_with (first | go_skip | ((with_reducible show wpList _ _ _ _ _ _); first | (refine rd (by rfl) (ex_bN 107 (.inr rfl) rfl) ?_; simp only [Act.put, n1, n2, n3])))
    go_ret
    exact ⟨rfl, rfl⟩
