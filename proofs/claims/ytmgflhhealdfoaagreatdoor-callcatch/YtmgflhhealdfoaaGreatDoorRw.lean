import Derived.Test.YtmgflhhealdfoaaGreatDoorRv
set_option linter.all false
namespace Go.Proofs.YtmgflhhealdfoaaGreatDoor
set_option maxHeartbeats 1000000
section
open Go Go.Proofs Go.Maps Go.RowKit FM
attribute [local go_sem] mm_GetOwnProperty mm_DefineOwnProperty mm_Get ta_caller ta_builder
theorem ex_bNull {o : Oper} {a : Act} {w : World} (ho : o.op = .build 24 #[(0, .const (.int .i64 2))]) : (execOp a.eval o).run Tryz.prog w = .ok (.value (.agg nullV.cs.toArray)) w := by
  have e : (Instr.build 24 #[(0, .int .i64 2)]).run Tryz.prog w = .ok (.agg nullV.cs.toArray) w := by kernel_rfl
  unfold execOp
  simp only [ho, List.map_toArray, List.map_cons, List.map_nil, show ∀ v, a.eval (.const v) = v from fun _ => rfl]
  simp [e]
theorem ex_bFive {o : Oper} {a : Act} {w : World} (ho : o.op = .build 24 #[(0, .const (.int .i64 4)), (2, .const (.float .f64 4617315517961601024))]) : (execOp a.eval o).run Tryz.prog w = .ok (.value (.agg fiveV.cs.toArray)) w := by
  have e : (Instr.build 24 #[(0, .int .i64 4), (2, .float .f64 4617315517961601024)]).run Tryz.prog w = .ok (.agg fiveV.cs.toArray) w := by kernel_rfl
  unfold execOp
  simp only [ho, List.map_toArray, List.map_cons, List.map_nil, show ∀ v, a.eval (.const v) = v from fun _ => rfl]
  simp [e]
theorem ex_bKey {o : Oper} {a : Act} {w : World} (s : ByteArray) (ho : o.op = .build 26 #[(0, .const (.string s))]) : (execOp a.eval o).run Tryz.prog w = .ok (.value (.agg (KK.cs ⟨s, 0⟩).toArray)) w := by
  have e : (Instr.build 26 #[(0, .string s)]).run Tryz.prog w = .ok (.agg (KK.cs ⟨s, 0⟩).toArray) w := by kernel_rfl
  unfold execOp
  simp only [ho, List.map_toArray, List.map_cons, List.map_nil, show ∀ v, a.eval (.const v) = v from fun _ => rfl]
  simp [e]
theorem ex_bDv {o : Oper} {a : Act} {w : World} {x0 : Operand} (v : VV) (ho : o.op = .build 38 #[(0, x0)]) (h0 : a.eval x0 = .agg v.cs.toArray) : (execOp a.eval o).run Tryz.prog w = .ok (.value (.agg (dv v).cs.toArray)) w := by
  have e : (Instr.build 38 #[(0, .agg v.cs.toArray)]).run Tryz.prog w = .ok (.agg (dv v).cs.toArray) w := by kernel_rfl
  unfold execOp
  simp only [ho, List.map_toArray, List.map_cons, List.map_nil, show ∀ v, a.eval (.const v) = v from fun _ => rfl, h0]
  simp [e]
theorem ex_bDg {o : Oper} {a : Act} {w : World} {x1 : Operand} (v : VV) (ho : o.op = .build 38 #[(1, x1)]) (h1 : a.eval x1 = .agg v.cs.toArray) : (execOp a.eval o).run Tryz.prog w = .ok (.value (.agg (dg v).cs.toArray)) w := by
  have e : (Instr.build 38 #[(1, .agg v.cs.toArray)]).run Tryz.prog w = .ok (.agg (dg v).cs.toArray) w := by kernel_rfl
  unfold execOp
  simp only [ho, List.map_toArray, List.map_cons, List.map_nil, show ∀ v, a.eval (.const v) = v from fun _ => rfl, h1]
  simp [e]
theorem ex_bT3 {o : Oper} {a : Act} {w : World} (ho : o.op = .build 40 #[(0, .const (.int .i64 3))]) : (execOp a.eval o).run Tryz.prog w = .ok (.value (.agg opT.cs.toArray)) w := by
  have e : (Instr.build 40 #[(0, .int .i64 3)]).run Tryz.prog w = .ok (.agg opT.cs.toArray) w := by kernel_rfl
  unfold execOp
  simp only [ho, List.map_toArray, List.map_cons, List.map_nil, show ∀ v, a.eval (.const v) = v from fun _ => rfl]
  simp [e]
theorem ex_bOR {o : Oper} {a : Act} {w : World} (n : Int) (ho : o.op = .build 40 #[(0, .const (.int .i64 7)), (2, .const (.int .i64 n))]) : (execOp a.eval o).run Tryz.prog w = .ok (.value (.agg (opR n).cs.toArray)) w := by
  have e : (Instr.build 40 #[(0, .int .i64 7), (2, .int .i64 n)]).run Tryz.prog w = .ok (.agg (opR n).cs.toArray) w := by kernel_rfl
  unfold execOp
  simp only [ho, List.map_toArray, List.map_cons, List.map_nil, show ∀ v, a.eval (.const v) = v from fun _ => rfl]
  simp [e]
theorem ex_bOG {o : Oper} {a : Act} {w : World} {x5 : Operand} (k : KK) (ho : o.op = .build 40 #[(0, .const (.int .i64 10)), (1, .const (.int .i64 1)), (5, x5)]) (h5 : a.eval x5 = .agg k.cs.toArray) : (execOp a.eval o).run Tryz.prog w = .ok (.value (.agg (opG k).cs.toArray)) w := by
  have e : (Instr.build 40 #[(0, .int .i64 10), (1, .int .i64 1), (5, .agg k.cs.toArray)]).run Tryz.prog w = .ok (.agg (opG k).cs.toArray) w := by kernel_rfl
  unfold execOp
  simp only [ho, List.map_toArray, List.map_cons, List.map_nil, show ∀ v, a.eval (.const v) = v from fun _ => rfl, h5]
  simp [e]
theorem ex_bOC {o : Oper} {a : Act} {w : World} {x6 : Operand} (t : Int) (v : VV) (ho : o.op = .build 40 #[(0, .const (.int .i64 1)), (1, .const (.int .i64 t)), (6, x6)]) (h6 : a.eval x6 = .agg v.cs.toArray) : (execOp a.eval o).run Tryz.prog w = .ok (.value (.agg (opC t v).cs.toArray)) w := by
  have e : (Instr.build 40 #[(0, .int .i64 1), (1, .int .i64 t), (6, .agg v.cs.toArray)]).run Tryz.prog w = .ok (.agg (opC t v).cs.toArray) w := by kernel_rfl
  unfold execOp
  simp only [ho, List.map_toArray, List.map_cons, List.map_nil, show ∀ v, a.eval (.const v) = v from fun _ => rfl, h6]
  simp [e]
theorem ex_bOD {o : Oper} {a : Act} {w : World} {x5 : Operand} (t b : Int) (k : KK) (ho : o.op = .build 40 #[(0, .const (.int .i64 12)), (1, .const (.int .i64 t)), (2, .const (.int .i64 0)), (3, .const (.int .i64 b)), (5, x5), (8, .const (.bool true))]) (h5 : a.eval x5 = .agg k.cs.toArray) : (execOp a.eval o).run Tryz.prog w = .ok (.value (.agg (opD t b k).cs.toArray)) w := by
  have e : (Instr.build 40 #[(0, .int .i64 12), (1, .int .i64 t), (2, .int .i64 0), (3, .int .i64 b), (5, .agg k.cs.toArray), (8, .bool true)]).run Tryz.prog w = .ok (.agg (opD t b k).cs.toArray) w := by kernel_rfl
  unfold execOp
  simp only [ho, List.map_toArray, List.map_cons, List.map_nil, show ∀ v, a.eval (.const v) = v from fun _ => rfl, h5]
  simp [e]
theorem ex_bOW {o : Oper} {a : Act} {w : World} {x9 : Operand} (ct : Bool) (ho : o.op = .build 40 #[(0, .const (.int .i64 8)), (1, .const (.int .i64 3)), (2, .const (.int .i64 1)), (9, x9)]) (h9 : a.eval x9 = .bool ct) : (execOp a.eval o).run Tryz.prog w = .ok (.value (.agg (opW ct).cs.toArray)) w := by
  have e : (Instr.build 40 #[(0, .int .i64 8), (1, .int .i64 3), (2, .int .i64 1), (9, .bool ct)]).run Tryz.prog w = .ok (.agg (opW ct).cs.toArray) w := by kernel_rfl
  unfold execOp
  simp only [ho, List.map_toArray, List.map_cons, List.map_nil, show ∀ v, a.eval (.const v) = v from fun _ => rfl, h9]
  simp [e]
theorem ex_bsO3 {o : Oper} {a : Act} {w : World} {x0 x1 x2 : Operand} {o0 o1 o2 : OP} (ho : o.op = .buildSlice 41 3 #[(0, x0), (1, x1), (2, x2)]) (h0 : a.eval x0 = .agg o0.cs.toArray) (h1 : a.eval x1 = .agg o1.cs.toArray) (h2 : a.eval x2 = .agg o2.cs.toArray) : (execOp a.eval o).run Tryz.prog w = .ok (.value (.slice (some ⟨w.heap.size, 0, none⟩) 3 3)) (w.alloc (Obj.cells ([o0, o1, o2].flatMap OP.cs).toArray 40)) := by
  have e : (Instr.buildSlice 41 3 #[(0, .agg o0.cs.toArray), (1, .agg o1.cs.toArray), (2, .agg o2.cs.toArray)]).run Tryz.prog w = .ok (.slice (some ⟨w.heap.size, 0, none⟩) 3 3) (w.alloc (Obj.cells ([o0, o1, o2].flatMap OP.cs).toArray 40)) := by kernel_rfl
  unfold execOp
  simp only [ho, List.map_toArray, List.map_cons, List.map_nil, h0, h1, h2]
  simp [e]
section
variable {ops : Array Oper} {rest : List Oper} {Q : Exit → Act → World → Prop} {w w0 : World} {a : Act} {o : Oper} {E : List Nat} {L : List Ob}
theorem bsO3 {o0 o1 o2 : OP} {x0 x1 x2 : Operand} (hw : Region.wanted o (yielded ops a.tmps) = true) (ho : o.op = .buildSlice 41 3 #[(0, x0), (1, x1), (2, x2)]) (h0 : a.eval x0 = .agg o0.cs.toArray) (h1 : a.eval x1 = .agg o1.cs.toArray) (h2 : a.eval x2 = .agg o2.cs.toArray) (hL : Sy w0 w E L)
    (h : ∀ X B, Sy w0 X E (L ++ [boxO B ([o0, o1, o2].flatMap OP.cs)]) → wpList Tryz.prog ops Q rest (a.put o.dst (.slice (some ⟨B, 0, none⟩) 3 3)) X) : wpList Tryz.prog ops Q (o :: rest) a w := by
  refine BigFrame.wpList_want hw fun K hK => ?_
  have hP := hK _ _ (h _ _ (hL.box ([o0, o1, o2].flatMap OP.cs) 40 (by simp [pcs_length])))
  unfold Oper.wp
  rw [ex_bsO3 ho h0 h1 h2]
  exact hP
end
theorem ex_bsO6 {o : Oper} {a : Act} {w : World} {x0 x1 x2 x3 x4 x5 : Operand} {o0 o1 o2 o3 o4 o5 : OP} (ho : o.op = .buildSlice 41 6 #[(0, x0), (1, x1), (2, x2), (3, x3), (4, x4), (5, x5)]) (h0 : a.eval x0 = .agg o0.cs.toArray) (h1 : a.eval x1 = .agg o1.cs.toArray) (h2 : a.eval x2 = .agg o2.cs.toArray) (h3 : a.eval x3 = .agg o3.cs.toArray) (h4 : a.eval x4 = .agg o4.cs.toArray) (h5 : a.eval x5 = .agg o5.cs.toArray) : (execOp a.eval o).run Tryz.prog w = .ok (.value (.slice (some ⟨w.heap.size, 0, none⟩) 6 6)) (w.alloc (Obj.cells ([o0, o1, o2, o3, o4, o5].flatMap OP.cs).toArray 40)) := by
  have e : (Instr.buildSlice 41 6 #[(0, .agg o0.cs.toArray), (1, .agg o1.cs.toArray), (2, .agg o2.cs.toArray), (3, .agg o3.cs.toArray), (4, .agg o4.cs.toArray), (5, .agg o5.cs.toArray)]).run Tryz.prog w = .ok (.slice (some ⟨w.heap.size, 0, none⟩) 6 6) (w.alloc (Obj.cells ([o0, o1, o2, o3, o4, o5].flatMap OP.cs).toArray 40)) := by kernel_rfl
  unfold execOp
  simp only [ho, List.map_toArray, List.map_cons, List.map_nil, h0, h1, h2, h3, h4, h5]
  simp [e]
section
variable {ops : Array Oper} {rest : List Oper} {Q : Exit → Act → World → Prop} {w w0 : World} {a : Act} {o : Oper} {E : List Nat} {L : List Ob}
theorem bsO6 {o0 o1 o2 o3 o4 o5 : OP} {x0 x1 x2 x3 x4 x5 : Operand} (hw : Region.wanted o (yielded ops a.tmps) = true) (ho : o.op = .buildSlice 41 6 #[(0, x0), (1, x1), (2, x2), (3, x3), (4, x4), (5, x5)]) (h0 : a.eval x0 = .agg o0.cs.toArray) (h1 : a.eval x1 = .agg o1.cs.toArray) (h2 : a.eval x2 = .agg o2.cs.toArray) (h3 : a.eval x3 = .agg o3.cs.toArray) (h4 : a.eval x4 = .agg o4.cs.toArray) (h5 : a.eval x5 = .agg o5.cs.toArray) (hL : Sy w0 w E L)
    (h : ∀ X B, Sy w0 X E (L ++ [boxO B ([o0, o1, o2, o3, o4, o5].flatMap OP.cs)]) → wpList Tryz.prog ops Q rest (a.put o.dst (.slice (some ⟨B, 0, none⟩) 6 6)) X) : wpList Tryz.prog ops Q (o :: rest) a w := by
  refine BigFrame.wpList_want hw fun K hK => ?_
  have hP := hK _ _ (h _ _ (hL.box ([o0, o1, o2, o3, o4, o5].flatMap OP.cs) 40 (by simp [pcs_length])))
  unfold Oper.wp
  rw [ex_bsO6 ho h0 h1 h2 h3 h4 h5]
  exact hP
end
theorem ex_ptr0 {o : Oper} {a : Act} {w : World} {x : Operand} {B : Nat} (ho : o.op = .binOp .eql 28 x (.const (.pointer none)) 28) (hx : a.eval x = .pointer (some ⟨B, 0, none⟩)) : (execOp a.eval o).run Tryz.prog w = .ok (.value (.bool false)) w := by
  unfold execOp
  simp only [ho, hx, show a.eval (.const (.pointer none)) = .pointer none from rfl]
  simp [go_sem, eqGuard]
theorem ex_eqNil {o : Oper} {a : Act} {w : World} {x : Operand} (ho : o.op = .binOp .eql 33 x (.const .nilIface) 33) (hx : a.eval x = .nilIface) : (execOp a.eval o).run Tryz.prog w = .ok (.value (.bool true)) w := by
  unfold execOp
  simp only [ho, hx, show a.eval (.const .nilIface) = .nilIface from rfl]
  simp [go_sem, eqGuard]
theorem ex_sub6 {o : Oper} {a : Act} {w : World} {x y : Operand} {n m : Int} (ho : o.op = .binOp .sub 3 x y 3) (hx : a.eval x = .int .i64 n) (hc : a.eval y = .int .i64 m) (h : n - m = 6) : (execOp a.eval o).run Tryz.prog w = .ok (.value (.int .i64 6)) w := by
  have z : IntKind.i64.wrap (n - m) = 6 := by rw [h]; decide
  unfold execOp
  simp only [ho, hx, hc]
  simp [go_sem, z]
theorem Sy.newh {w X Y : World} {E : List Nat} {L : List Ob} {h : HP} (S : Sy w X E L) (H : h.Is Y) (hb : Below X.heap.size X Y) (hf : ∀ b ∈ h.blocks, X.heap.size ≤ b) : Sy w Y E (L ++ [hpO h]) := S.add (hpO_ok h) H hb hf
theorem new_ok0 (b : Nat) (c f d : Int) (hc : ¬ c ≤ 0) : orE [checkE (newHP b c f d).l.length nullV, protoE nullV, roomE (newHP b c f d)] = 0 := by
  have h3 : roomE (newHP b c f d) = 0 := if_neg hc
  rw [h3]
  show orE [checkE 0 nullV, protoE nullV, 0] = 0
  kernel_rfl
theorem more_ok0 (b : Nat) (c f d : Int) (gv : Value) (q : OB) (hc : ¬ c ≤ 1) : orE [checkE ((newHP b c f d).more gv q).l.length nullV, protoE nullV, roomE ((newHP b c f d).more gv q)] = 0 := by
  have h3 : roomE ((newHP b c f d).more gv q) = 0 := if_neg hc
  rw [h3]
  show orE [checkE 1 nullV, protoE nullV, 0] = 0
  kernel_rfl
theorem newE_A (h : HP) (hl : h.l.length = 1) : newE h nullV (bodA keyA) = 0 := by
  unfold newE
  rw [hl]
  kernel_rfl
set_option maxHeartbeats 2000000 in
set_option maxRecDepth 100000 in
theorem awake_ok (w : World) (h6 : 6 ≤ w.heap.size) (hT : Tabs w) : Calls Tryz.prog 5 #[] w fun e w' => e = .returned (.bool true) ∧ Below w.heap.size w w' := by
  have SS := hide (Sy.nil w [])
  have HT := hide hT
  have H6 := hide h6
  clear hT h6
  go_enter Tryz.func5, Tryz.ntmps5
  go_wp2_with fail
  refine (new_h 5 100 10 _ (Nat.le_trans (unhide H6) (unhide SS).fr.size)).mono ?_
  rintro _ Y0 hN
  rcases hN with ⟨h9, -⟩ | ⟨-, B0, rfl, hI, hlo, hb⟩
  · exact absurd h9 (by decide)
  replace SS := hide ((unhide SS).newh hI hb (fun b hb => by rw [new_blocks] at hb; rw [List.mem_singleton.1 hb]; exact hlo))
  clear hI hlo hb
  go_wp2_with (first | go_skip | ((with_reducible show wpList _ _ _ _ _ _); first | (refine rd (by rfl) (ex_neE0 rfl rfl rfl rfl) ?_; simp only [Act.put, n1, n2, n3]) | (refine rd (by rfl) (ex_ptr0 rfl rfl) ?_; simp only [Act.put, n1, n2, n3]) | (refine rd (by rfl) (ex_bNull rfl) ?_; simp only [Act.put, n1, n2, n3]) | (refine zA 24 (zeroV.cs) (by rfl) rfl SS ?_; clear SS; intro Xn Bn SS; simp only [Act.put, n1, n2, n3]) | (refine zS (nullV.cs) 1 24 (by rfl) rfl rfl rfl rfl (oneV _) szV SS rfl ?_; clear SS; intro Xm SS; simp only [Act.put, n1, n2, n3]) | (refine zL (nullV.cs) 24 5 1 rwV szV (by rfl) rfl rfl SS rfl rfl rfl ?_; simp only [Act.put, n1, n2, n3])))
  have HC := make_ok (newHP B0 5 100 10) nullV _ ((unhide SS).hp 0 rfl) ((unhide HT).on (unhide SS).fr.below) (by show 0 ≤ 65536; decide) (new_ok0 _ _ _ _ (by decide))
  simp only [pagg, kagg, vagg, dagg] at HC
  refine HC.mono ?_
  clear HC
  rintro _ Y ⟨gv1, q1, rfl, ⟨a1, a2, a3, a4, a5, a6⟩, T⟩
  replace SS := hide ((unhide SS).heap 0 rfl T)
  clear T
  go_wp2_with (first | go_skip | ((with_reducible show wpList _ _ _ _ _ _); first | (refine zL (nullV.cs) 24 5 1 rwV szV (by rfl) rfl rfl SS rfl rfl rfl ?_; simp only [Act.put, n1, n2, n3]) | (refine rd (by rfl) (ex_bT3 rfl) ?_; simp only [Act.put, n1, n2, n3]) | (refine rd (by rfl) (ex_bKey ⟨#[97]⟩ rfl) ?_; simp only [Act.put, n1, n2, n3]) | (refine rd (by rfl) (ex_bOG keyA rfl rfl) ?_; simp only [Act.put, n1, n2, n3]) | (refine rd (by rfl) (ex_bOR 1 rfl) ?_; simp only [Act.put, n1, n2, n3]) | ((refine bsO3 (o0 := opT) (o1 := opG keyA) (o2 := opR 1) (by rfl) rfl rfl rfl rfl (unhide SS) ?_); intro Xr Br Sr; replace SS := hide Sr; clear Sr; simp only [Act.put, n1, n2, n3])))
  have hO : ∀ o ∈ bodA keyA, OkO o ∧ (o.e.g.k ≠ 7 ∧ o.e.s.k ≠ 7) := by
    intro o ho
    have hFD := fd_zero
    have hx0 : zeroV.x < 2 ^ 64 := by decide
    have hk7 : zeroD.g.k ≠ 7 ∧ zeroD.s.k ≠ 7 := by decide
    rcases List.mem_cons.1 ho with rfl | ho
    · exact ⟨⟨hFD, hx0, .inr (.inl rfl)⟩, hk7⟩
    rcases List.mem_cons.1 ho with rfl | ho
    · exact ⟨⟨hFD, hx0, .inr (.inr (.inr (.inr (.inr (.inl rfl)))))⟩, hk7⟩
    rcases List.mem_cons.1 ho with rfl | ho
    · exact ⟨⟨hFD, hx0, .inr (.inr (.inr (.inl rfl)))⟩, hk7⟩
    · cases ho
  have HC := new_O ((newHP B0 5 100 10).more gv1 q1) nullV Br 3 (bodA keyA) false _ ((unhide SS).hp 0 rfl) ((unhide HT).on (unhide SS).fr.below) (by show 1 ≤ 65536; decide) rfl ((unhide SS).hold 2 rfl) (((unhide SS).hold 2 rfl).lt (by show 0 < 96; decide)) (fun hm => (unhide SS).apart (i := 0) (j := 2) rfl rfl (by decide) Br hm (List.mem_singleton.2 rfl)) (fun o ho => (hO o ho).1) (fun o ho => (hO o ho).2) (by show 3 ≤ 256; decide) (by show 0 < 3; decide) (more_ok0 _ _ _ _ _ _ (by decide))
  simp only [pagg, kagg, vagg, dagg] at HC
  refine HC.mono ?_
  clear HC
  rintro _ Y (⟨-, h9, -⟩ | ⟨-, gv2, q2, g, c, rfl, ⟨b1, b2, b3, b4, b5, b6, b7⟩, T⟩)
  · exact absurd (newE_A _ rfl) h9
  obtain ⟨h2, A2, hb2, hf2, hl2, T2⟩ : ∃ h2 : HP, AW h2 q1 q2 g c ∧ h2.b = B0 ∧ h2.fuel = 100 ∧ h2.l.length = 2 ∧ HP.To ((newHP B0 5 100 10).more gv1 q1) h2 _ Y := ⟨_, ⟨rfl, wb_body _ _ _ _ _, b4, b5, ⟨by show 2 ≤ 65536; decide, by show (0 : Int) ≤ 100; decide, by show (100 : Int) ≤ 9223372036854775807; decide, by show (0 : Int) ≤ 0; decide, by show (0 : Int) ≤ 10; decide, by show (10 : Int) ≤ 100000000; decide⟩, by show (50 : Int) ≤ 100; decide, by show (0 : Int) + 4 ≤ 10; decide⟩, rfl, rfl, rfl, T⟩
  replace SS := hide ((unhide SS).heap 0 rfl T2)
  replace hf2 := hide hf2
  clear T T2 b1 b2 b3 b4 b5 b6 b7
  go_wp2_with (first | go_skip | ((with_reducible show wpList _ _ _ _ _ _); first | (refine rd (by rfl) (ex_bFive rfl) ?_; simp only [Act.put, n1, n2, n3]) | (refine zA 24 (zeroV.cs) (by rfl) rfl SS ?_; clear SS; intro Xf Bf SS; simp only [Act.put, n1, n2, n3]) | (refine zS (fiveV.cs) 3 24 (by rfl) rfl rfl rfl rfl (oneV _) szV SS rfl ?_; clear SS; intro Xg SS; simp only [Act.put, n1, n2, n3]) | (refine rd (by rfl) (ex_bKey ⟨#[97]⟩ rfl) ?_; simp only [Act.put, n1, n2, n3]) | (refine zL (fiveV.cs) 24 5 3 rwV szV (by rfl) rfl rfl SS rfl rfl rfl ?_; simp only [Act.put, n1, n2, n3]) | (refine rd (by rfl) (ex_bDv fiveV rfl rfl) ?_; simp only [Act.put, n1, n2, n3])))
  have HC := aw_def_a h2 q1 q2 g c _ ((unhide SS).hp 0 rfl) ((unhide HT).on (unhide SS).fr.below) A2 a3 a5 (by omega)
  rw [hb2] at HC
  simp only [pagg, kagg, vagg, dagg] at HC
  refine HC.mono ?_
  clear HC
  rintro _ Y ⟨rfl, h3, q3, f3, -, -, x3, p3, l3, A3, T⟩
  replace SS := hide ((unhide SS).heap 0 rfl T)
  have A4 := A3 (by rw [unhide hf2]; decide)
  replace f3 := hide f3
  have hb3 : h3.b = B0 := T.hb.trans hb2
  clear T A3 A2
  go_wp2_with (first | go_skip | ((with_reducible show wpList _ _ _ _ _ _); first | (refine rd (by rfl) (ex_bKey ⟨#[98]⟩ rfl) ?_; simp only [Act.put, n1, n2, n3]) | (refine rd (by rfl) (ex_bRef rfl rfl) ?_; simp only [Act.put, n1, n2, n3]) | (refine rd (by rfl) (ex_bDg (refV 2) rfl rfl) ?_; simp only [Act.put, n1, n2, n3])))
  have HC := aw_def_b h3 q3 q2 g c _ ((unhide SS).hp 0 rfl) ((unhide HT).on (unhide SS).fr.below) A4 x3 p3 l3
  rw [hb3] at HC
  simp only [pagg, kagg, vagg, dagg] at HC
  refine HC.mono ?_
  clear HC
  rintro _ Y ⟨rfl, h4, q4, f4, -, -, x4, p4, A5, T⟩
  replace SS := hide ((unhide SS).heap 0 rfl T)
  have A6 := A5 (by rw [unhide f3, unhide hf2]; decide)
  replace f4 := hide f4
  have hb4 : h4.b = B0 := T.hb.trans hb3
  clear T A5 A4
  go_wp2_with fail
  have HC := fuel_h h4 _ ((unhide SS).hp 0 rfl)
  rw [hb4] at HC
  refine HC.mono ?_
  clear HC
  rintro _ Y ⟨rfl, rfl⟩
  go_wp2_with (first | go_skip | ((with_reducible show wpList _ _ _ _ _ _); first | (refine rd (by rfl) (ex_bKey ⟨#[98]⟩ rfl) ?_; simp only [Act.put, n1, n2, n3]) | (refine rd (by rfl) (ex_bRef rfl rfl) ?_; simp only [Act.put, n1, n2, n3])))
  have HC := aw_get h4 q4 q2 g c _ ((unhide SS).hp 0 rfl) ((unhide HT).on (unhide SS).fr.below) A6 p4
  rw [hb4] at HC
  simp only [pagg, kagg, vagg, dagg] at HC
  refine HC.mono ?_
  clear HC
  rintro _ Y ⟨rfl, h5, f5, T⟩
  replace SS := hide ((unhide SS).heap 0 rfl T)
  have hb5 : h5.b = B0 := T.hb.trans hb4
  clear T A6
  have HSB := hide (show h4.fuel - h5.fuel = 6 by rw [f5]; omega)
  clear f5
  have HEQ := fun (X : World) => eq_any fiveV fiveV X
  simp only [eqB_self, vagg] at HEQ
  go_wp2_with (first | go_skip | ((with_reducible show wpList _ _ _ _ _ _); first | (refine zA 24 (zeroV.cs) (by rfl) rfl SS ?_; clear SS; intro Xv Bv SS; simp only [Act.put, n1, n2, n3]) | (refine zS (fiveV.cs) 4 24 (by rfl) rfl rfl rfl rfl (oneV _) szV SS rfl ?_; clear SS; intro Xw SS; simp only [Act.put, n1, n2, n3]) | (refine zL (fiveV.cs) 24 5 4 rwV szV (by rfl) rfl rfl SS rfl rfl rfl ?_; simp only [Act.put, n1, n2, n3]) | (refine zL (fiveV.cs) 24 5 3 rwV szV (by rfl) rfl rfl SS rfl rfl rfl ?_; simp only [Act.put, n1, n2, n3]) | (refine rd (by rfl) (ex_eqYes rfl rfl rfl rfl) ?_; simp only [Act.put, n1, n2, n3]) | (refine rd (by rfl) (ex_eqNil rfl rfl) ?_; simp only [Act.put, n1, n2, n3])))
  refine (HEQ _).mono ?_
  rintro _ Y ⟨rfl, hb⟩
  replace SS := hide ((unhide SS).on hb)
  clear hb HEQ
  go_wp2_with (first | go_skip | ((with_reducible show wpList _ _ _ _ _ _); first | (refine zL (fiveV.cs) 24 5 4 rwV szV (by rfl) rfl rfl SS rfl rfl rfl ?_; simp only [Act.put, n1, n2, n3]) | (refine zL (fiveV.cs) 24 5 3 rwV szV (by rfl) rfl rfl SS rfl rfl rfl ?_; simp only [Act.put, n1, n2, n3]) | (refine rd (by rfl) (ex_eqYes rfl rfl rfl rfl) ?_; simp only [Act.put, n1, n2, n3]) | (refine rd (by rfl) (ex_eqNil rfl rfl) ?_; simp only [Act.put, n1, n2, n3])))
  have HC := fuel_h h5 _ ((unhide SS).hp 0 rfl)
  rw [hb5] at HC
  refine HC.mono ?_
  clear HC
  rintro _ Y ⟨rfl, rfl⟩
  go_wp2_with (first | go_skip | ((with_reducible show wpList _ _ _ _ _ _); first | (refine rd (by rfl) (ex_sub6 rfl rfl rfl (unhide HSB)) ?_; simp only [Act.put, n1, n2, n3]) | (refine rd (by rfl) (ex_eqYes rfl rfl rfl rfl) ?_; simp only [Act.put, n1, n2, n3])))
  go_ret
  exact ⟨rfl, (unhide SS).fr.below⟩
