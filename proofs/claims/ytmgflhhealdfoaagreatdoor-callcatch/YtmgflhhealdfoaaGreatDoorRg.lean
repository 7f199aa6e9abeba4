import Derived.Test.YtmgflhhealdfoaaGreatDoorRf
set_option linter.all false
namespace Go.Proofs.YtmgflhhealdfoaaGreatDoor
set_option maxHeartbeats 1000000
section
open Go Go.Proofs Go.Maps Go.RowKit FM
attribute [local go_sem] mm_GetOwnProperty mm_DefineOwnProperty mm_Get ta_caller ta_builder
theorem ex_neN {o : Oper} {a : Act} {w : World} {x y : Operand} {n m : Int} (ho : o.op = .binOp .neq 3 x y 3) (hx : a.eval x = .int .i64 n) (hc : a.eval y = .int .i64 m) (h : n ≠ m) : (execOp a.eval o).run Tryz.prog w = .ok (.value (.bool true)) w := by
  unfold execOp
  simp only [ho, hx, hc]
  simp [go_sem, eqGuard, h]
theorem ex_neY {o : Oper} {a : Act} {w : World} {x y : Operand} {n m : Int} (ho : o.op = .binOp .neq 3 x y 3) (hx : a.eval x = .int .i64 n) (hc : a.eval y = .int .i64 m) (h : n = m) : (execOp a.eval o).run Tryz.prog w = .ok (.value (.bool false)) w := by
  unfold execOp
  simp only [ho, hx, hc]
  simp [go_sem, eqGuard, h]
def kErr (k : KK) : Int := if goodK k then 0 else 5
theorem kcheck (k : KK) (w : World) (hT : Lib.Utf8Tabs 1 2 w) : Calls Tryz.prog 43 #[k.agg] w fun e w' => e = .returned (.int .i64 (kErr k)) ∧ Below w.heap.size w w' := check12 k.s k.n w hT
theorem reads_holds {w : World} {B : Nat} {l : List VV} (h : Holds w B (l.flatMap VV.cs)) : ReadsV w (some ⟨B, 0, none⟩) l := fun j v hj => by
  have hlt := (List.getElem?_eq_some_iff.1 hj).1
  have hv := (List.getElem?_eq_some_iff.1 hj).2
  have hlen : (l.flatMap VV.cs).length = l.length * 5 := flat_len VV.cs 5 (fun _ => rfl) l
  refine ⟨B, 0, rfl, h.lt (by omega), fun t u hu => ?_⟩
  have ht : t < 5 := by have := (List.getElem?_eq_some_iff.1 hu).1; simpa [VV.cs] using this
  have h2 := flat_get VV.cs 5 (fun _ => rfl) l j t hlt ht
  rw [hv, hu] at h2
  have := h.cell (j * 5 + t) h2
  rw [Nat.zero_add]
  exact this
section
variable {md : Region.Mode} {ops : Array Oper} {Q : Exit → Act → World → Prop} {S : World → Prop} {w w0 : World} {fuel : Nat} {listed : Array Bool} {a : Act} {o : Oper} {E : List Nat} {L : List Ob}
theorem gbsS {cs : List Value} {t n : Nat} (i : Nat) (dst : Option Tmp) {rs : List Nat} (hi : ops[i]? = some o) (hd : o.dst = dst) (hw : Region.wanted o (yielded ops a.tmps) = true) (he : (execOp a.eval o).run Tryz.prog w = .ok (.value (.slice (some ⟨w.heap.size, 0, none⟩) n n)) (w.alloc (Obj.cells cs.toArray t))) (hc : 0 < cs.length) (hL : Sy w0 w E L)
    (hS : ∀ X, Sy w0 X E (L ++ [boxO w.heap.size cs]) → S X) (h : ∀ X B, B = w.heap.size → Sy w0 X E (L ++ [boxO B cs]) → wpAnyH Tryz.prog md ops Q S fuel (listed.setIfInBounds i true) (a.put dst (.slice (some ⟨B, 0, none⟩) n n)) X) (hs : AllReadyH Tryz.prog md ops Q S fuel listed a w rs) : AllReadyH Tryz.prog md ops Q S fuel listed a w (i :: rs) := by
  have hb := hL.box cs t hc
  exact gval i dst hi hd hw he (hS _ hb) (h _ _ rfl hb) hs
end
theorem ex_bsV1 {o : Oper} {a : Act} {w : World} {x0 : Operand} {v0 : VV} (ho : o.op = .buildSlice 63 1 #[(0, x0)]) (h0 : a.eval x0 = .agg v0.cs.toArray) : (execOp a.eval o).run Tryz.prog w = .ok (.value (.slice (some ⟨w.heap.size, 0, none⟩) 1 1)) (w.alloc (Obj.cells ([v0].flatMap VV.cs).toArray 24)) := by
  have e : (Instr.buildSlice 63 1 #[(0, .agg v0.cs.toArray)]).run Tryz.prog w = .ok (.slice (some ⟨w.heap.size, 0, none⟩) 1 1) (w.alloc (Obj.cells ([v0].flatMap VV.cs).toArray 24)) := by kernel_rfl
  unfold execOp
  simp only [ho, List.map_toArray, List.map_cons, List.map_nil, h0]
  simp [e]
theorem ex_bsV2 {o : Oper} {a : Act} {w : World} {x0 x1 : Operand} {v0 v1 : VV} (ho : o.op = .buildSlice 63 2 #[(0, x0), (1, x1)]) (h0 : a.eval x0 = .agg v0.cs.toArray) (h1 : a.eval x1 = .agg v1.cs.toArray) : (execOp a.eval o).run Tryz.prog w = .ok (.value (.slice (some ⟨w.heap.size, 0, none⟩) 2 2)) (w.alloc (Obj.cells ([v0, v1].flatMap VV.cs).toArray 24)) := by
  have e : (Instr.buildSlice 63 2 #[(0, .agg v0.cs.toArray), (1, .agg v1.cs.toArray)]).run Tryz.prog w = .ok (.slice (some ⟨w.heap.size, 0, none⟩) 2 2) (w.alloc (Obj.cells ([v0, v1].flatMap VV.cs).toArray 24)) := by kernel_rfl
  unfold execOp
  simp only [ho, List.map_toArray, List.map_cons, List.map_nil, h0, h1]
  simp [e]
theorem ex_bsV3 {o : Oper} {a : Act} {w : World} {x0 x1 x2 : Operand} {v0 v1 v2 : VV} (ho : o.op = .buildSlice 63 3 #[(0, x0), (1, x1), (2, x2)]) (h0 : a.eval x0 = .agg v0.cs.toArray) (h1 : a.eval x1 = .agg v1.cs.toArray) (h2 : a.eval x2 = .agg v2.cs.toArray) : (execOp a.eval o).run Tryz.prog w = .ok (.value (.slice (some ⟨w.heap.size, 0, none⟩) 3 3)) (w.alloc (Obj.cells ([v0, v1, v2].flatMap VV.cs).toArray 24)) := by
  have e : (Instr.buildSlice 63 3 #[(0, .agg v0.cs.toArray), (1, .agg v1.cs.toArray), (2, .agg v2.cs.toArray)]).run Tryz.prog w = .ok (.slice (some ⟨w.heap.size, 0, none⟩) 3 3) (w.alloc (Obj.cells ([v0, v1, v2].flatMap VV.cs).toArray 24)) := by kernel_rfl
  unfold execOp
  simp only [ho, List.map_toArray, List.map_cons, List.map_nil, h0, h1, h2]
  simp [e]
theorem ex_bsE3 {o : Oper} {a : Act} {w : World} {x0 x1 x2 : Operand} {e0 e1 e2 : Int} (ho : o.op = .buildSlice 101 3 #[(0, x0), (1, x1), (2, x2)]) (h0 : a.eval x0 = .int .i64 e0) (h1 : a.eval x1 = .int .i64 e1) (h2 : a.eval x2 = .int .i64 e2) : (execOp a.eval o).run Tryz.prog w = .ok (.value (.slice (some ⟨w.heap.size, 0, none⟩) 3 3)) (w.alloc (Obj.cells (ints [e0, e1, e2]).toArray 29)) := by
  have e : (Instr.buildSlice 101 3 #[(0, .int .i64 e0), (1, .int .i64 e1), (2, .int .i64 e2)]).run Tryz.prog w = .ok (.slice (some ⟨w.heap.size, 0, none⟩) 3 3) (w.alloc (Obj.cells (ints [e0, e1, e2]).toArray 29)) := by kernel_rfl
  unfold execOp
  simp only [ho, List.map_toArray, List.map_cons, List.map_nil, h0, h1, h2]
  simp [e]
theorem ex_bsE4 {o : Oper} {a : Act} {w : World} {x0 x1 x2 x3 : Operand} {e0 e1 e2 e3 : Int} (ho : o.op = .buildSlice 101 4 #[(0, x0), (1, x1), (2, x2), (3, x3)]) (h0 : a.eval x0 = .int .i64 e0) (h1 : a.eval x1 = .int .i64 e1) (h2 : a.eval x2 = .int .i64 e2) (h3 : a.eval x3 = .int .i64 e3) : (execOp a.eval o).run Tryz.prog w = .ok (.value (.slice (some ⟨w.heap.size, 0, none⟩) 4 4)) (w.alloc (Obj.cells (ints [e0, e1, e2, e3]).toArray 29)) := by
  have e : (Instr.buildSlice 101 4 #[(0, .int .i64 e0), (1, .int .i64 e1), (2, .int .i64 e2), (3, .int .i64 e3)]).run Tryz.prog w = .ok (.slice (some ⟨w.heap.size, 0, none⟩) 4 4) (w.alloc (Obj.cells (ints [e0, e1, e2, e3]).toArray 29)) := by kernel_rfl
  unfold execOp
  simp only [ho, List.map_toArray, List.map_cons, List.map_nil, h0, h1, h2, h3]
  simp [e]
theorem ex_bsE5 {o : Oper} {a : Act} {w : World} {x0 x1 x2 x3 x4 : Operand} {e0 e1 e2 e3 e4 : Int} (ho : o.op = .buildSlice 101 5 #[(0, x0), (1, x1), (2, x2), (3, x3), (4, x4)]) (h0 : a.eval x0 = .int .i64 e0) (h1 : a.eval x1 = .int .i64 e1) (h2 : a.eval x2 = .int .i64 e2) (h3 : a.eval x3 = .int .i64 e3) (h4 : a.eval x4 = .int .i64 e4) : (execOp a.eval o).run Tryz.prog w = .ok (.value (.slice (some ⟨w.heap.size, 0, none⟩) 5 5)) (w.alloc (Obj.cells (ints [e0, e1, e2, e3, e4]).toArray 29)) := by
  have e : (Instr.buildSlice 101 5 #[(0, .int .i64 e0), (1, .int .i64 e1), (2, .int .i64 e2), (3, .int .i64 e3), (4, .int .i64 e4)]).run Tryz.prog w = .ok (.slice (some ⟨w.heap.size, 0, none⟩) 5 5) (w.alloc (Obj.cells (ints [e0, e1, e2, e3, e4]).toArray 29)) := by kernel_rfl
  unfold execOp
  simp only [ho, List.map_toArray, List.map_cons, List.map_nil, h0, h1, h2, h3, h4]
  simp [e]
def protoE (v : VV) : Int := if v.k = 2 ∨ v.k = 7 then 0 else 5
set_option maxRecDepth 100000 in
theorem protoKind_any (v : VV) (w : World) : Calls Tryz.prog 51 #[v.agg] w fun e w' => e = .returned (.int .i64 (protoE v)) ∧ Below w.heap.size w w' := by
  unfold protoE
  by_cases h2 : v.k = 2
  · rw [if_pos (Or.inl h2)]
    have SS := hide (Sy.nil w [])
    rw [vagg]
    go_enter Tryz.func51, Tryz.ntmps51
    go_wp2_with (first | go_skip | ((with_reducible show wpList _ _ _ _ _ _); first | (refine zB 24 (v.cs) (by rfl) rfl rfl rfl SS ?_; clear SS; intro X1 B1 SS; simp only [Act.put, n1, n2, n3]) | (refine rd (by rfl) (ex_load1 3 Tryz.isAgg3 rfl rfl ((unhide SS).hold 0 rfl) rfl) ?_; simp only [Act.put, n1, n2, n3]) | (refine rd (by rfl) (ex_neY rfl rfl rfl h2) ?_; simp only [Act.put, n1, n2, n3])))
    go_ret
    exact ⟨rfl, (unhide SS).fr.below⟩
  · by_cases h7 : v.k = 7
    · rw [if_pos (Or.inr h7)]
      have SS := hide (Sy.nil w [])
      rw [vagg]
      go_enter Tryz.func51, Tryz.ntmps51
      go_wp2_with (first | go_skip | ((with_reducible show wpList _ _ _ _ _ _); first | (refine zB 24 (v.cs) (by rfl) rfl rfl rfl SS ?_; clear SS; intro X1 B1 SS; simp only [Act.put, n1, n2, n3]) | (refine rd (by rfl) (ex_load1 3 Tryz.isAgg3 rfl rfl ((unhide SS).hold 0 rfl) rfl) ?_; simp only [Act.put, n1, n2, n3]) | (refine rd (by rfl) (ex_neN rfl rfl rfl h2) ?_; simp only [Act.put, n1, n2, n3]) | (refine rd (by rfl) (ex_neY rfl rfl rfl h7) ?_; simp only [Act.put, n1, n2, n3])))
      go_ret
      exact ⟨rfl, (unhide SS).fr.below⟩
    · rw [if_neg (by simp [h2, h7])]
      have SS := hide (Sy.nil w [])
      rw [vagg]
      go_enter Tryz.func51, Tryz.ntmps51
      go_wp2_with (first | go_skip | ((with_reducible show wpList _ _ _ _ _ _); first | (refine zB 24 (v.cs) (by rfl) rfl rfl rfl SS ?_; clear SS; intro X1 B1 SS; simp only [Act.put, n1, n2, n3]) | (refine rd (by rfl) (ex_load1 3 Tryz.isAgg3 rfl rfl ((unhide SS).hold 0 rfl) rfl) ?_; simp only [Act.put, n1, n2, n3]) | (refine rd (by rfl) (ex_neN rfl rfl rfl h2) ?_; simp only [Act.put, n1, n2, n3]) | (refine rd (by rfl) (ex_neN rfl rfl rfl h7) ?_; simp only [Act.put, n1, n2, n3])))
      go_ret
      exact ⟨rfl, (unhide SS).fr.below⟩
/-- What holds behind a region that ends as it should. -/
def PostN (R : Act → World → Prop) (e : Exit) (a : Act) (X : World) : Prop := match e with | .normal => R a X | _ => False
theorem pN {R : Act → World → Prop} {a : Act} {X : World} (h : R a X) : PostN R .normal a X := h
theorem region_post {P : Program} {id : Nat} {ops : Array Oper} {Q : Exit → Act → World → Prop} {a : Act} {w : World} (R : Act → Act → World → Prop) (h1 : (Code.region id ops true).wp P (PostN (R a)) a w) (h2 : ∀ a' X, R a a' X → Q .normal a' X) : (Code.region id ops true).wp P Q a w := Code.wp_mono (fun e a' X h => by cases e <;> first | exact h2 a' X h | exact h.elim) h1
theorem orE_zero {l : List Int} (h : orE l = 0) : ∀ e ∈ l, e = 0 := by
  induction l with
  | nil => intro e he; cases he
  | cons a l ih =>
    unfold orE at h
    split at h
    · rename_i h0
      intro e he
      rcases List.mem_cons.1 he with rfl | he
      · exact h0
      · exact ih h e he
    · rename_i h0
      exact absurd h h0
theorem th_zero {o : Int} {h : HP} (he : thE o h.l.length = 0) : ∃ (j : Nat) (q : OB), o = (j : Int) + 1 ∧ h.l[j]? = some q := by
  unfold thE at he
  split at he
  · rename_i h1
    exact has_some h1
  · cases he
