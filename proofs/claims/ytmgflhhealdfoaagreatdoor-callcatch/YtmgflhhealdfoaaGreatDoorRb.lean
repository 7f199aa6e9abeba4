import Derived.Test.YtmgflhhealdfoaaGreatDoorRa
set_option linter.all false
namespace Go.Proofs.YtmgflhhealdfoaaGreatDoor
set_option maxHeartbeats 1000000
section
open Go Go.Proofs Go.Maps Go.RowKit FM
theorem mm0_GetOwnProperty (w : World) : (method 627 72 (.agg #[]) "GetOwnProperty").run Tryz.prog w = .ok (156, .agg #[]) w := by kernel_rfl
theorem mm1_GetOwnProperty (w : World) : (method 627 105 (.agg #[]) "GetOwnProperty").run Tryz.prog w = .ok (156, .agg #[]) w := by kernel_rfl
theorem mm2_GetOwnProperty (w : World) : (method 627 107 (.agg #[]) "GetOwnProperty").run Tryz.prog w = .ok (156, .agg #[]) w := by kernel_rfl
theorem mm_GetOwnProperty (m : Nat) (w : World) : (method 627 (mt m) (.agg #[]) "GetOwnProperty").run Tryz.prog w = .ok (156, .agg #[]) w := by
  rcases m with _ | _ | m
  · exact mm0_GetOwnProperty w
  · exact mm1_GetOwnProperty w
  · exact mm2_GetOwnProperty w
theorem mm0_DefineOwnProperty (w : World) : (method 627 72 (.agg #[]) "DefineOwnProperty").run Tryz.prog w = .ok (123, .agg #[]) w := by kernel_rfl
theorem mm1_DefineOwnProperty (w : World) : (method 627 105 (.agg #[]) "DefineOwnProperty").run Tryz.prog w = .ok (123, .agg #[]) w := by kernel_rfl
theorem mm2_DefineOwnProperty (w : World) : (method 627 107 (.agg #[]) "DefineOwnProperty").run Tryz.prog w = .ok (123, .agg #[]) w := by kernel_rfl
theorem mm_DefineOwnProperty (m : Nat) (w : World) : (method 627 (mt m) (.agg #[]) "DefineOwnProperty").run Tryz.prog w = .ok (123, .agg #[]) w := by
  rcases m with _ | _ | m
  · exact mm0_DefineOwnProperty w
  · exact mm1_DefineOwnProperty w
  · exact mm2_DefineOwnProperty w
theorem mm0_Get (w : World) : (method 627 72 (.agg #[]) "Get").run Tryz.prog w = .ok (124, .agg #[]) w := by kernel_rfl
theorem mm1_Get (w : World) : (method 627 105 (.agg #[]) "Get").run Tryz.prog w = .ok (124, .agg #[]) w := by kernel_rfl
theorem mm2_Get (w : World) : (method 627 107 (.agg #[]) "Get").run Tryz.prog w = .ok (124, .agg #[]) w := by kernel_rfl
theorem mm_Get (m : Nat) (w : World) : (method 627 (mt m) (.agg #[]) "Get").run Tryz.prog w = .ok (124, .agg #[]) w := by
  rcases m with _ | _ | m
  · exact mm0_Get w
  · exact mm1_Get w
  · exact mm2_Get w
theorem ta0_caller (w : World) : (Instr.typeAssert (.iface 72 (.agg #[])) 77 114 true).run Tryz.prog w = .ok (.tuple #[.nilIface, .bool false]) w := run_typeAssert_lacksB Tryz.underlying114 (by kernel_rfl) (by kernel_rfl) _ _ _
theorem ta0_builder (w : World) : (Instr.typeAssert (.iface 72 (.agg #[])) 77 136 true).run Tryz.prog w = .ok (.tuple #[.nilIface, .bool false]) w := run_typeAssert_lacksB Tryz.underlying136 (by kernel_rfl) (by kernel_rfl) _ _ _
theorem ta1_caller (w : World) : (Instr.typeAssert (.iface 105 (.agg #[])) 77 114 true).run Tryz.prog w = .ok (.tuple #[.iface 105 (.agg #[]), .bool true]) w := run_typeAssert_hasB Tryz.underlying114 (by kernel_rfl) _ _ _
theorem ta1_builder (w : World) : (Instr.typeAssert (.iface 105 (.agg #[])) 77 136 true).run Tryz.prog w = .ok (.tuple #[.nilIface, .bool false]) w := run_typeAssert_lacksB Tryz.underlying136 (by kernel_rfl) (by kernel_rfl) _ _ _
theorem ta2_caller (w : World) : (Instr.typeAssert (.iface 107 (.agg #[])) 77 114 true).run Tryz.prog w = .ok (.tuple #[.iface 107 (.agg #[]), .bool true]) w := run_typeAssert_hasB Tryz.underlying114 (by kernel_rfl) _ _ _
theorem ta2_builder (w : World) : (Instr.typeAssert (.iface 107 (.agg #[])) 77 136 true).run Tryz.prog w = .ok (.tuple #[.iface 107 (.agg #[]), .bool true]) w := run_typeAssert_hasB Tryz.underlying136 (by kernel_rfl) _ _ _
def callsM (m : Nat) : Bool := decide (m ≠ 0)
def buildsM (m : Nat) : Bool := decide (2 ≤ m)
def asI (b : Bool) (m : Nat) : Value := if b then .iface (mt m) (.agg #[]) else .nilIface
theorem ta_caller (m : Nat) (w : World) : (Instr.typeAssert (.iface (mt m) (.agg #[])) 77 114 true).run Tryz.prog w = .ok (.tuple #[asI (callsM m) m, .bool (callsM m)]) w := by
  rcases m with _ | _ | m
  · exact ta0_caller w
  · exact ta1_caller w
  · have e : callsM (m + 1 + 1) = true := by simp [callsM]
    rw [e]
    exact ta2_caller w
theorem ta_builder (m : Nat) (w : World) : (Instr.typeAssert (.iface (mt m) (.agg #[])) 77 136 true).run Tryz.prog w = .ok (.tuple #[asI (buildsM m) m, .bool (buildsM m)]) w := by
  rcases m with _ | _ | m
  · exact ta0_builder w
  · exact ta1_builder w
  · have e : buildsM (m + 1 + 1) = true := by simp [buildsM]
    rw [e]
    exact ta2_builder w
theorem oneD (d : DD) : ∀ u ∈ d.cs, u.oneCell' = true := by simp [DD.cs, VV.cs, Value.oneCell']
theorem oneV (d : VV) : ∀ u ∈ d.cs, u.oneCell' = true := by simp [VV.cs, Value.oneCell']
section
variable {ops : Array Oper} {rest : List Oper} {Q : Exit → Act → World → Prop} {w w0 : World} {a : Act} {o : Oper} {E : List Nat} {L : List Ob}
/-- A box of nothing. -/
theorem bx0 {x : Operand} (ty : TypeId) (hw : Region.wanted o (yielded ops a.tmps) = true) (ho : o.op = .box ty x) (hx : a.eval x = .agg #[]) (hL : Sy w0 w E L)
    (h : ∀ X B, Sy w0 X E L → wpList Tryz.prog ops Q rest (a.put o.dst (.pointer (some ⟨B, 0, none⟩))) X) : wpList Tryz.prog ops Q (o :: rest) a w := by
  refine BigFrame.wpList_want hw fun K hK => ?_
  have hP := hK _ _ (h _ w.heap.size (hL.on ((Below.refl _ _).alloc (Nat.le_refl _) (Obj.cells #[] ty))))
  have e2 : (Instr.box ty (.agg #[])).run Tryz.prog w = .ok (.pointer (some ⟨w.heap.size, 0, none⟩)) (w.alloc (Obj.cells #[] ty)) := rfl
  unfold Oper.wp execOp
  simp only [ho, hx]
  simp [e2]
  exact hP
end
section
variable {md : Region.Mode} {ops : Array Oper} {Q : Exit → Act → World → Prop} {S : World → Prop} {w w0 : World} {fuel : Nat} {listed : Array Bool} {a : Act} {o : Oper} {E : List Nat} {L : List Ob}
theorem galS (i : Nat) (dst : Option Tmp) (ty : TypeId) (cs : List Value) {v : Value} {rs : List Nat} (hi : ops[i]? = some o) (hd : o.dst = dst) (hw : Region.wanted o (yielded ops a.tmps) = true) (ho : o.op = .alloc ty) (hz : ∀ w, (zeroValue ty).run Tryz.prog w = .ok v w) (hv : v.cells.toList = cs) (hc : 0 < cs.length) (hL : Sy w0 w E L)
    (hS : ∀ X, Sy w0 X E (L ++ [boxO w.heap.size cs]) → S X) (h : ∀ X B, B = w.heap.size → Sy w0 X E (L ++ [boxO B cs]) → wpAnyH Tryz.prog md ops Q S fuel (listed.setIfInBounds i true) (a.put dst (.pointer (some ⟨B, 0, none⟩))) X) (hs : AllReadyH Tryz.prog md ops Q S fuel listed a w rs) : AllReadyH Tryz.prog md ops Q S fuel listed a w (i :: rs) := by
  have e : v.cells = cs.toArray := by rw [← hv]
  have he : (execOp a.eval o).run Tryz.prog w = .ok (.value (.pointer (some ⟨w.heap.size, 0, none⟩))) (w.alloc (Obj.cells cs.toArray ty)) := by
    unfold execOp
    simp only [ho]
    simp [go_sem, hz]
    show w.alloc (Obj.cells v.cells ty) = _
    rw [e]
  have hb := hL.box cs ty hc
  exact gval i dst hi hd hw he (hS _ hb) (h _ _ rfl hb) hs
theorem gbxS (i : Nat) (dst : Option Tmp) (ty : TypeId) (cs : List Value) {v : Value} {x : Operand} {rs : List Nat} (hi : ops[i]? = some o) (hd : o.dst = dst) (hw : Region.wanted o (yielded ops a.tmps) = true) (ho : o.op = .box ty x) (hx : a.eval x = v) (hv : v.cells.toList = cs) (hc : 0 < cs.length) (hL : Sy w0 w E L)
    (hS : ∀ X, Sy w0 X E (L ++ [boxO w.heap.size cs]) → S X) (h : ∀ X B, B = w.heap.size → Sy w0 X E (L ++ [boxO B cs]) → wpAnyH Tryz.prog md ops Q S fuel (listed.setIfInBounds i true) (a.put dst (.pointer (some ⟨B, 0, none⟩))) X) (hs : AllReadyH Tryz.prog md ops Q S fuel listed a w rs) : AllReadyH Tryz.prog md ops Q S fuel listed a w (i :: rs) := by
  have e : v.cells = cs.toArray := by rw [← hv]
  have e2 : (Instr.box ty v).run Tryz.prog w = .ok (.pointer (some ⟨w.heap.size, 0, none⟩)) (w.alloc (Obj.cells cs.toArray ty)) := by rw [← e]; rfl
  have he : (execOp a.eval o).run Tryz.prog w = .ok (.value (.pointer (some ⟨w.heap.size, 0, none⟩))) (w.alloc (Obj.cells cs.toArray ty)) := by
    unfold execOp
    simp only [ho, hx]
    simp [e2]
  have hb := hL.box cs ty hc
  exact gval i dst hi hd hw he (hS _ hb) (h _ _ rfl hb) hs
theorem gstS {b p : Nat} {cs vs new : List Value} {v : Value} {x y : Operand} {rs : List Nat} (i k : Nat) (ty : TypeId) (hi : ops[i]? = some o) (hd : o.dst = none) (hw : Region.wanted o (yielded ops a.tmps) = true) (ho : o.op = .store ty x y) (hx : a.eval x = .pointer (some ⟨b, p, none⟩)) (hy : a.eval y = v)
    (hv : v.cells.toList = vs) (h1 : ∀ u ∈ vs, u.oneCell' = true) (hsz : (Tryz.prog.info? ty).map (·.size) = some vs.length) (hL : Sy w0 w E L) (hg : L[k]? = some (boxO b cs)) (hp : p + vs.length ≤ cs.length) (hn : cput cs p vs = new)
    (hS : ∀ X, Sy w0 X E (L.set k (boxO b new)) → S X) (h : ∀ X, Sy w0 X E (L.set k (boxO b new)) → wpAnyH Tryz.prog md ops Q S fuel (listed.setIfInBounds i true) (a.put none undef) X) (hs : AllReadyH Tryz.prog md ops Q S fuel listed a w rs) : AllReadyH Tryz.prog md ops Q S fuel listed a w (i :: rs) := by
  have hq := hL.put k hg p vs hp
  rw [hn] at hq
  have he : (execOp a.eval o).run Tryz.prog w = .ok .skip (w.setCells b p vs) := by
    unfold execOp
    simp only [ho, hx, hy, Instr.storeAt, Instr.sureAddr, Sem.run_bind, Sem.run_pure, Result.andThen_ok, run_storeVar_any w b p ty v vs hv ((hL.hold k hg).there p vs.length hp) hsz h1]
  exact gskp i none hi hd hw he (hS _ hq) (h _ hq) hs
end
