import Derived.Test.YtpbdidnphkkenaaGreatDoorRt
set_option linter.all false
namespace Go.Proofs.YtpbdidnphkkenaaGreatDoor
set_option maxHeartbeats 1000000
section
open Go Go.Proofs Go.Maps Go.RowKit
theorem sz1 (t : TypeId) (h : (Tryz.prog.info? t).map (·.size) = some 1 := by kernel_rfl) : (Tryz.prog.info? t).map (·.size) = some 1 := h
theorem PK.setC {w W0 X : World} {S0 S : PS} {base N : Nat} {L : List (Nat × List Value)} {ds : List Nat} {C' : List CT} (h : PK w W0 X S0 S base N L ds) (hc : ∀ c ∈ C', CutIs S X c) (hs : ∀ c ∈ C', ∀ b, c.b = some b → ∀ q ∈ L, q.1 ≠ b) : PK w W0 X S0 { S with C := C' } base N L ds := ⟨h.pj.setC hc hs, h.kl⟩
/-- The cut of a walk that begins. -/
theorem cut_zero {S : PS} {W : World} {base N : Nat} (h : S.Is W base N) : CutIs S W ⟨0, -1, none⟩ := by
  refine ⟨Nat.zero_le _, by have := h.nx.1; show (-1 : Int) < S.R0.nx; omega, ?_, fun b e => by cases e⟩
  have e1 : S.T0.live.map (fun r => decide (0 < r.n)) = List.replicate S.T0.live.length true := by
    rw [List.eq_replicate_iff]
    refine ⟨by simp, fun b hb => ?_⟩
    obtain ⟨r, hr, rfl⟩ := List.mem_map.1 hb
    exact decide_eq_true (h.bs.t0.num r (List.mem_filter.1 hr).1).1
  have e2 : S.R0.es.map (fun e => decide ((-1 : Int) < e.n)) = List.replicate S.R0.es.length true := by
    rw [List.eq_replicate_iff]
    refine ⟨by simp, fun b hb => ?_⟩
    obtain ⟨e, he, rfl⟩ := List.mem_map.1 hb
    have := (h.ris.1.2 e.n (List.mem_map.2 ⟨e, he, rfl⟩)).1
    exact decide_eq_true (by omega)
  show S.T0.live.map (fun r => decide (0 < r.n)) = S.R0.es.map (fun e => decide ((-1 : Int) < e.n))
  rw [e1, e2, h.rel0.len]
/-- A row of the first table is none of the other blocks. -/
theorem row_cold {S : PS} {W : World} {base : Nat} (h : S.Bs W base) {r : RR} (hr : r ∈ S.T0.rows) : r.b ∉ S.hot ∧ r.b ∈ S.parts.flatten := by
  have hm : r.b ∈ S.T0.rows.map (·.b) := List.mem_map.2 ⟨r, hr, rfl⟩
  have hb : r.b ∈ S.T0.blocks := by
    simp only [TT.blocks, List.mem_cons, List.mem_append]
    exact .inr (.inr (.inr hm))
  have ap := TT.apart h.t0.nd
  refine ⟨fun hh => ?_, ps_in (.inr (.inl hb))⟩
  simp only [PS.hot, List.mem_cons, List.mem_append] at hh
  rcases hh with e | e | e | e | e
  · exact h.d 0 1 _ _ rfl rfl (by omega) S.P (by simp) (e ▸ hb)
  · simp only [TT.hot, List.mem_cons] at e
    rcases e with e | e | e
    · exact ap.tr (e ▸ hm)
    · exact ap.mr (e ▸ hm)
    · exact (ap.tv r.b (by simpa using e)).2.2 hm
  · exact h.d 1 2 _ _ rfl rfl (by omega) _ hb e
  · exact h.d 1 3 _ _ rfl rfl (by omega) _ hb e
  · exact h.d 1 4 _ _ rfl rfl (by omega) _ hb e
theorem cut_row {S : PS} {W : World} {base N : Nat} (h : S.Is W base N) {r : RR} {x : EE} (hr : r ∈ S.T0.live) (hx : x ∈ S.R0.es) (hal : S.T0.live.map (fun q => decide (r.n < q.n)) = S.R0.es.map (fun e => decide (x.n < e.n))) : CutIs S W ⟨r.n, x.n, some r.b⟩ := by
  have hrm := (List.mem_filter.1 hr).1
  have hH := h.bs.t0.rows r hrm
  refine ⟨(h.bs.t0.num r hrm).2, (h.ris.1.2 x.n (List.mem_map.2 ⟨x, hx, rfl⟩)).2, hal, fun b e => ?_⟩
  obtain rfl : r.b = b := Option.some.inj e
  exact ⟨hH.lt (by simp [rcs_length]), (row_cold h.bs hrm).1, num_cell hH⟩
/-- A walk that has ended, the answer in its box. -/
def XX (w : World) (S : PS) (base B6 : Nat) (M lo : Int) (W : World) : Prop := ∃ L, L[3]? = some (B6, [.bool true]) ∧ X26 w S base L M lo [] W
theorem X26.mark {w : World} {S : PS} {base : Nat} {L : List (Nat × List Value)} {M lo : Int} {ds : List Nat} {W : World} {D : Nat} (h : X26 w S base L M lo ds W) (hD : W.heap[D]? = some (.deferred (some []))) (hl : w.heap.size ≤ D) (hn : D ∉ ds) : X26 w S base L M lo (D :: ds) W := by
  obtain ⟨S', N, c, h1, h2⟩ := h
  exact ⟨S', N, c, h1.mark hD hl hn, h2⟩
section
variable {ops : Array Oper} {rest : List Oper} {Q : Exit → Act → World → Prop} {w W0 X : World} {a : Act} {o : Oper} {S0 S : PS} {base N : Nat} {L : List (Nat × List Value)} {ds : List Nat}
theorem alKp {v : Value} (t : TypeId) (cs : List Value) (hw : Region.wanted o (yielded ops a.tmps) = true) (ho : o.op = .alloc t) (hz : ∀ w, (zeroValue t).run Tryz.prog w = .ok v w) (hv : v.cells.toList = cs) (hc : 0 < cs.length) (hL : PK w W0 X S0 S base N L ds)
    (h : ∀ Y B, Below X.heap.size X Y → B = X.heap.size → PK w W0 Y S0 S base N (L ++ [(B, cs)]) ds → wpList Tryz.prog ops Q rest (a.put o.dst (.pointer (some ⟨B, 0, none⟩))) Y) : wpList Tryz.prog ops Q (o :: rest) a X :=
  vl hw (ex_al t cs ho hz hv) (h _ _ ((Below.refl _ _).alloc (Nat.le_refl _) _) rfl (hL.box cs t hc))
theorem stKp {b p : Nat} {cs vs : List Value} {v : Value} {x y : Operand} (i : Nat) (t : TypeId) (hw : Region.wanted o (yielded ops a.tmps) = true) (ho : o.op = .store t x y) (hx : a.eval x = .pointer (some ⟨b, p, none⟩)) (hy : a.eval y = v) (hv : v.cells.toList = vs) (h1 : ∀ u ∈ vs, u.oneCell' = true) (hi : (Tryz.prog.info? t).map (·.size) = some vs.length) (hL : PK w W0 X S0 S base N L ds) (hl : L[i]? = some (b, cs)) (hp : p + vs.length ≤ cs.length)
    (h : ∀ Y, Fr X Y [b] → PK w W0 Y S0 S base N (L.set i (b, cput cs p vs)) ds → wpList Tryz.prog ops Q rest (a.put o.dst undef) Y) : wpList Tryz.prog ops Q (o :: rest) a X :=
  skv hw (ex_store ho hx hy hv h1 hi (hL.get i hl) hp) (h _ (Fr.setCells X b p vs) (hL.put i hl p vs hp))
end
theorem wl_nil {ops : Array Oper} {K : Act → World → Prop} {Q : Exit → Act → World → Prop} {a : Act} {w : World} (h : K a w) : wpList Tryz.prog ops (Exit.then K Q) [] a w := h
attribute [local go_sem] Oper.semAt_some
set_option maxHeartbeats 8000000 in
set_option maxRecDepth 100000 in
theorem walk26 (dep : Int) (hd : 0 ≤ dep ∧ dep ≤ 3) (B E f : Nat) (hB : 2 * B ≤ 128) (HPL : PlayAt (dep + 1) B E f) (S : PS) (kd : Int) (k : KK) (d : DD) (nn : Int) (inner : Value) (w : World) (base N : Nat) (hS : S.Is w base N) (hM : Pot S N + 2 * B < 800000) (hlo : -1000000 + (2 * E + 1 : Int) ≤ min S.left 0) (hU : ∀ X, Below base w X → Lib.Utf8Tabs 2 3 X ∧ TabP X) (hR : RdA (f + 1) w base inner) :
    Calls Tryz.prog 26 #[.pointer (some ⟨S.P, 0, none⟩), actV kd k d nn inner, .int .i64 dep] w (PlayP S w base (Pot S N + 2 * B) (min S.left 0 - (2 * E + 1))) := by
  obtain ⟨A, m, c, rfl, hrd⟩ := hR
  have HR := hide hrd
  have HU := hide hU
  have HM := hide hM
  have HLO := hide hlo
  have HB := hide hB
  have HP := hide HPL
  have HLW : Hid (∀ X, Fr w X S.parts.flatten → Below base w X) := hide (fun X hX => ⟨hX.os, hX.tape, hX.output, hX.size, fun b hb => hX.block b (Nat.lt_of_lt_of_le hb hS.bs.size) (fun hm => by
    obtain ⟨Q, hQ, hbQ⟩ := List.mem_flatten.1 hm
    have := hS.bs.low Q hQ b hbQ
    omega)⟩)
  have LL : Hid (PJ w w S S base N [] []) := hide (PJ.start hS)
  clear hrd hU hM hlo hB HPL hS
  unfold actV
  refine (callsIn_wide (n := 6)).1 ?_
  refine callsIn_of_wp_marks Tryz.func26 rfl trivial ?_ rfl
  simp only [Tryz.ntmps26, List.size_toArray, List.length_cons, List.length_nil, Nat.reduceAdd, Nat.reduceSub, Array.replicate_succ, Array.replicate_zero, List.push_toArray, List.append_toArray, List.nil_append, List.cons_append]
  refine wpIn_wide.2 (wp_mono (Q := RetM Tryz.f26 6 (PlayP S w base (Pot S N + 2 * B) (min S.left 0 - (2 * E + 1)))) ?_ retM_post)
  by_cases hn0 : nn ≤ 0
  · go_wp2_with (first | go_skip | ((with_reducible show wpList _ _ _ _ _ _); first | ((with_reducible show wpList _ _ _ (Oper.mk _ (Op.box _ _) _ _ _ _ :: _) _ _); (refine bxP 24 [.pointer (some ⟨S.P, 0, none⟩)] (by rfl) rfl rfl rfl (Nat.succ_pos _) (unhide LL) ?_); intro YB3 B3 LB3; replace LL := hide LB3; clear LB3; simp only [Act.put, n1, n2, n3]) | ((with_reducible show wpList _ _ _ (Oper.mk _ (Op.box _ _) _ _ _ _ :: _) _ _); (refine bxP 41 (actCs kd k d nn (.slice A m c)) (by rfl) rfl rfl rfl (Nat.succ_pos _) (unhide LL) ?_); intro YB4 B4 LB4; replace LL := hide LB4; clear LB4; simp only [Act.put, n1, n2, n3]) | ((with_reducible show wpList _ _ _ (Oper.mk _ (Op.box _ _) _ _ _ _ :: _) _ _); (refine bxP 3 [.int .i64 dep] (by rfl) rfl rfl rfl (Nat.succ_pos _) (unhide LL) ?_); intro YB5 B5 LB5; replace LL := hide LB5; clear LB5; simp only [Act.put, n1, n2, n3]) | ((with_reducible show wpList _ _ _ (Oper.mk _ (Op.alloc _) _ _ _ _ :: _) _ _); (refine alP (v := .bool false) 4 [.bool false] (by rfl) rfl (fun w => by kernel_rfl) rfl (Nat.succ_pos _) (show PJ _ _ _ _ _ _ [_, _, _] _ from unhide LL) ?_); intro YB6 B6 LB6; replace LL := hide LB6; clear LB6; simp only [Act.put, n1, n2, n3]) | ((with_reducible show wpList _ _ _ (Oper.mk _ (Op.alloc _) _ _ _ _ :: _) _ _); (refine alP (v := .pointer none) 28 [.pointer none] (by rfl) rfl (fun w => by kernel_rfl) rfl (Nat.succ_pos _) (show PJ _ _ _ _ _ _ [_, _, _, _] _ from unhide LL) ?_); intro YB7 B7 LB7; replace LL := hide LB7; clear LB7; simp only [Act.put, n1, n2, n3]) | ((with_reducible show wpList _ _ _ (Oper.mk _ (Op.alloc _) _ _ _ _ :: _) _ _); (refine alP (v := .int .i64 0) 3 [.int .i64 0] (by rfl) rfl (fun w => by kernel_rfl) rfl (Nat.succ_pos _) (show PJ _ _ _ _ _ _ [_, _, _, _, _] _ from unhide LL) ?_); intro YB8 B8 LB8; replace LL := hide LB8; clear LB8; simp only [Act.put, n1, n2, n3]) | ((with_reducible show wpList _ _ _ (Oper.mk _ (Op.alloc _) _ _ _ _ :: _) _ _); (refine alP (v := .int .i64 0) 3 [.int .i64 0] (by rfl) rfl (fun w => by kernel_rfl) rfl (Nat.succ_pos _) (show PJ _ _ _ _ _ _ [_, _, _, _, _, _] _ from unhide LL) ?_); intro YB9 B9 LB9; replace LL := hide LB9; clear LB9; simp only [Act.put, n1, n2, n3]) | ((with_reducible show wpList _ _ _ (Oper.mk _ (Op.load _ _) _ _ _ _ :: _) _ _); (refine rd (by rfl) (ex_load1 24 Tryz.isAgg24 rfl rfl ((unhide LL).get 0 rfl) rfl) ?_); simp only [Act.put, n1, n2, n3]) | ((with_reducible show wpList _ _ _ (Oper.mk _ (Op.load _ _) _ _ _ _ :: _) _ _); (refine rd (by rfl) (ex_load1 28 Tryz.isAgg28 rfl rfl (unhide LL).is.bs.hold rfl) ?_); simp only [Act.put, n1, n2, n3]) | ((with_reducible show wpList _ _ _ (Oper.mk _ (Op.load _ _) _ _ _ _ :: _) _ _); (refine rd (by rfl) (ex_load1 26 Tryz.isAgg26 rfl rfl (unhide LL).is.bs.hold rfl) ?_); simp only [Act.put, n1, n2, n3]) | ((with_reducible show wpList _ _ _ (Oper.mk _ (Op.load _ _) _ _ _ _ :: _) _ _); (refine rd (by rfl) (ex_load1 3 Tryz.isAgg3 rfl rfl ((unhide LL).get 1 rfl) rfl) ?_); simp only [Act.put, n1, n2, n3]) | ((with_reducible show wpList _ _ _ (Oper.mk _ (Op.store _ _ _) _ _ _ _ :: _) _ _); (refine stP (vs := [.pointer (some ⟨S.R0.t, 0, none⟩)]) 4 28 (by rfl) rfl rfl rfl rfl (by simp [Value.oneCell']) (sz1 28) (unhide LL) rfl (Nat.le_refl _) ?_); intro Yp Lp; replace LL := hide Lp; clear Lp; simp only [Act.put, n1, n2, n3]) | ((with_reducible show wpList _ _ _ (Oper.mk _ (Op.store _ _ _) _ _ _ _ :: _) _ _); (refine stP (vs := [.int .i64 (-1)]) 5 3 (by rfl) rfl rfl rfl rfl (by simp [Value.oneCell']) (sz1 3) (unhide LL) rfl (Nat.le_refl _) ?_); intro Yq Lq; replace LL := hide Lq; clear Lq; simp only [Act.put, n1, n2, n3]) | ((with_reducible show wpList _ _ _ (Oper.mk _ (Op.store _ _ _) _ _ _ _ :: _) _ _); (refine stP (vs := [.int .i64 0]) 6 3 (by rfl) rfl rfl rfl rfl (by simp [Value.oneCell']) (sz1 3) (unhide LL) rfl (Nat.le_refl _) ?_); intro Yr Lr; replace LL := hide Lr; clear Lr; simp only [Act.put, n1, n2, n3]) | ((with_reducible show wpList _ _ _ (Oper.mk _ (Op.store _ _ _) _ _ _ _ :: _) _ _); (refine stP (vs := [.bool true]) 3 4 (by rfl) rfl rfl rfl rfl (by simp [Value.oneCell']) (sz1 4) (unhide LL) rfl (Nat.le_refl _) ?_); intro Ys Ls; replace LL := hide Ls; clear Ls; simp only [Act.put, n1, n2, n3])))
    exact ⟨_, res26 (b := true) ((unhide LL).get 3 rfl) rfl, rfl, S, N, (unhide LL).is, ⟨rfl, (unhide LL).fr, fun b hb => .inl hb, rfl, Int.le_refl _, fun _ => ⟨rfl, rfl⟩⟩, by omega, by omega⟩
  · have hn1 : ¬ nn ≤ 0 := hn0
    go_wp2_with (first | go_skip | ((with_reducible show wpList _ _ _ _ _ _); first | ((with_reducible show wpList _ _ _ (Oper.mk _ (Op.box _ _) _ _ _ _ :: _) _ _); (refine bxP 24 [.pointer (some ⟨S.P, 0, none⟩)] (by rfl) rfl rfl rfl (Nat.succ_pos _) (unhide LL) ?_); intro YB3 B3 LB3; replace LL := hide LB3; clear LB3; simp only [Act.put, n1, n2, n3]) | ((with_reducible show wpList _ _ _ (Oper.mk _ (Op.box _ _) _ _ _ _ :: _) _ _); (refine bxP 41 (actCs kd k d nn (.slice A m c)) (by rfl) rfl rfl rfl (Nat.succ_pos _) (unhide LL) ?_); intro YB4 B4 LB4; replace LL := hide LB4; clear LB4; simp only [Act.put, n1, n2, n3]) | ((with_reducible show wpList _ _ _ (Oper.mk _ (Op.box _ _) _ _ _ _ :: _) _ _); (refine bxP 3 [.int .i64 dep] (by rfl) rfl rfl rfl (Nat.succ_pos _) (unhide LL) ?_); intro YB5 B5 LB5; replace LL := hide LB5; clear LB5; simp only [Act.put, n1, n2, n3]) | ((with_reducible show wpList _ _ _ (Oper.mk _ (Op.alloc _) _ _ _ _ :: _) _ _); (refine alP (v := .bool false) 4 [.bool false] (by rfl) rfl (fun w => by kernel_rfl) rfl (Nat.succ_pos _) (show PJ _ _ _ _ _ _ [_, _, _] _ from unhide LL) ?_); intro YB6 B6 LB6; replace LL := hide LB6; clear LB6; simp only [Act.put, n1, n2, n3]) | ((with_reducible show wpList _ _ _ (Oper.mk _ (Op.alloc _) _ _ _ _ :: _) _ _); (refine alP (v := .pointer none) 28 [.pointer none] (by rfl) rfl (fun w => by kernel_rfl) rfl (Nat.succ_pos _) (show PJ _ _ _ _ _ _ [_, _, _, _] _ from unhide LL) ?_); intro YB7 B7 LB7; replace LL := hide LB7; clear LB7; simp only [Act.put, n1, n2, n3]) | ((with_reducible show wpList _ _ _ (Oper.mk _ (Op.alloc _) _ _ _ _ :: _) _ _); (refine alP (v := .int .i64 0) 3 [.int .i64 0] (by rfl) rfl (fun w => by kernel_rfl) rfl (Nat.succ_pos _) (show PJ _ _ _ _ _ _ [_, _, _, _, _] _ from unhide LL) ?_); intro YB8 B8 LB8; replace LL := hide LB8; clear LB8; simp only [Act.put, n1, n2, n3]) | ((with_reducible show wpList _ _ _ (Oper.mk _ (Op.alloc _) _ _ _ _ :: _) _ _); (refine alP (v := .int .i64 0) 3 [.int .i64 0] (by rfl) rfl (fun w => by kernel_rfl) rfl (Nat.succ_pos _) (show PJ _ _ _ _ _ _ [_, _, _, _, _, _] _ from unhide LL) ?_); intro YB9 B9 LB9; replace LL := hide LB9; clear LB9; simp only [Act.put, n1, n2, n3]) | ((with_reducible show wpList _ _ _ (Oper.mk _ (Op.load _ _) _ _ _ _ :: _) _ _); (refine rd (by rfl) (ex_load1 24 Tryz.isAgg24 rfl rfl ((unhide LL).get 0 rfl) rfl) ?_); simp only [Act.put, n1, n2, n3]) | ((with_reducible show wpList _ _ _ (Oper.mk _ (Op.load _ _) _ _ _ _ :: _) _ _); (refine rd (by rfl) (ex_load1 28 Tryz.isAgg28 rfl rfl (unhide LL).is.bs.hold rfl) ?_); simp only [Act.put, n1, n2, n3]) | ((with_reducible show wpList _ _ _ (Oper.mk _ (Op.load _ _) _ _ _ _ :: _) _ _); (refine rd (by rfl) (ex_load1 26 Tryz.isAgg26 rfl rfl (unhide LL).is.bs.hold rfl) ?_); simp only [Act.put, n1, n2, n3]) | ((with_reducible show wpList _ _ _ (Oper.mk _ (Op.load _ _) _ _ _ _ :: _) _ _); (refine rd (by rfl) (ex_load1 3 Tryz.isAgg3 rfl rfl ((unhide LL).get 1 rfl) rfl) ?_); simp only [Act.put, n1, n2, n3]) | ((with_reducible show wpList _ _ _ (Oper.mk _ (Op.store _ _ _) _ _ _ _ :: _) _ _); (refine stP (vs := [.pointer (some ⟨S.R0.t, 0, none⟩)]) 4 28 (by rfl) rfl rfl rfl rfl (by simp [Value.oneCell']) (sz1 28) (unhide LL) rfl (Nat.le_refl _) ?_); intro Yp Lp; replace LL := hide Lp; clear Lp; simp only [Act.put, n1, n2, n3]) | ((with_reducible show wpList _ _ _ (Oper.mk _ (Op.store _ _ _) _ _ _ _ :: _) _ _); (refine stP (vs := [.int .i64 (-1)]) 5 3 (by rfl) rfl rfl rfl rfl (by simp [Value.oneCell']) (sz1 3) (unhide LL) rfl (Nat.le_refl _) ?_); intro Yq Lq; replace LL := hide Lq; clear Lq; simp only [Act.put, n1, n2, n3]) | ((with_reducible show wpList _ _ _ (Oper.mk _ (Op.store _ _ _) _ _ _ _ :: _) _ _); (refine stP (vs := [.int .i64 0]) 6 3 (by rfl) rfl rfl rfl rfl (by simp [Value.oneCell']) (sz1 3) (unhide LL) rfl (Nat.le_refl _) ?_); intro Yr Lr; replace LL := hide Lr; clear Lr; simp only [Act.put, n1, n2, n3])))
    refine (each41j (unhide LL)).mono ?_
    rintro _ Y ⟨Bn, rfl, hL⟩
    replace LL : Hid (PJ w Y S S base N [(B3, [.pointer (some ⟨S.P, 0, none⟩)]), (B4, actCs kd k d nn (.slice A m c)), (B5, [.int .i64 dep]), (B6, [.bool false]), (B7, [.pointer (some ⟨S.R0.t, 0, none⟩)]), (B8, [.int .i64 (-1)]), (B9, [.int .i64 (0 : Nat)]), (Bn, [.pointer (some ⟨S.T0.t, 0, none⟩)])] []) := hide hL
    clear hL
    go_wp2_with (first | go_skip | ((with_reducible show wpList _ _ _ _ _ _); first | ((with_reducible show wpList _ _ _ (Oper.mk _ (Op.binOp _ _ _ _ _) _ _ _ _ :: _) _ _); (refine rd (by rfl) (ex_eqFn rfl rfl) ?_); simp only [Act.put, n1, n2, n3])))
    have LC : Hid (PJ w Y S { S with C := ⟨0, -1, none⟩ :: S.C } base N [(B3, [.pointer (some ⟨S.P, 0, none⟩)]), (B4, actCs kd k d nn (.slice A m c)), (B5, [.int .i64 dep]), (B6, [.bool false]), (B7, [.pointer (some ⟨S.R0.t, 0, none⟩)]), (B8, [.int .i64 (-1)]), (B9, [.int .i64 (0 : Nat)]), (Bn, [.pointer (some ⟨S.T0.t, 0, none⟩)])] []) := hide ((unhide LL).setC (fun c' hc => by
      rcases List.mem_cons.1 hc with rfl | hc
      · exact cut_zero (unhide LL).is
      · exact (unhide LL).is.cut c' hc) (fun c' hc b e => by
      rcases List.mem_cons.1 hc with rfl | hc
      · cases e
      · exact (unhide LL).cs c' hc b e))
    have HSZ := hide (unhide LL).fr.size
    clear LL
    refine (wpIn_wide (n := 4)).1 ?_
    refine range_two (σ := WS) rfl (by omega) (gf := 49) (lb := #[.pointer (some ⟨Bn, 0, none⟩)]) rfl trivial (enters_of Tryz.func49 (by kernel_rfl) rfl) (each_by 3 (by omega) S.T0.t Bn ⟨S.T0, 0, none, S.left.toNat + 1⟩ rfl _) (Below.refl _ _) ?hps (W26 w S base (fun a n => [(B3, [.pointer (some ⟨S.P, 0, none⟩)]), (B4, actCs kd k d nn (.slice A m c)), (B5, [.int .i64 dep]), (B6, [.bool false]), (B7, [.pointer (some ⟨S.R0.t, 0, none⟩)]), (B8, [.int .i64 a]), (B9, [.int .i64 (n : Nat)]), (Bn, [.pointer (some ⟨S.T0.t, 0, none⟩)])]) (Pot S N)) (fun c W => c = .ret ∧ XX w S base B6 (Pot S N + 2 * B) (min S.left 0 - (2 * E + 1)) W) (fun s W h => W26.tab (by have := unhide HM; omega) (i := 7) (fun _ _ => rfl) h) (W26.ownL (unhide HSZ)) (fun c s A B row hs hg hr => by obtain ⟨h1, L, h2, h3⟩ := hs; exact ⟨h1, L, h2, X26.ownL (unhide HSZ) () A B row h3 hg hr⟩) ?h0 11 12 (fun r => r.k.cs) (fun r => r.d.cs) (fun _ => Nat.succ_pos _) (fun _ => Nat.succ_pos _) ?assign ?body ?done ?stop
    case hps => intro q; rfl
    case h0 => exact ⟨_, N, -1, 0, unhide LC, rfl, rfl, Int.le_refl _, rfl, by show (0 : Int) + max S.left 0 ≤ _; omega, Int.le_refl _, .inl ⟨rfl, rfl⟩⟩
    case stop =>
      rintro D c' W hD ⟨rfl, L, hL3, hX⟩ hM9
      have hX2 := hX.mark hM9 (Nat.le_trans (unhide HSZ) hD) (by simp)
      refine wpIn_ret ?_
      exact leave26 (i := 3) hX2 hL3 rfl
    case assign =>
      intro l9 s9 r9 W9 K9 hI9 hV9 hK9
      simp only [encR, zip2, n1, n2, n3] at hK9 ⊢
      obtain ⟨p1, p2, p3⟩ := new_var W9 zeroK.cs r9.k.cs 33 (Nat.le_refl _) rfl (Nat.succ_pos _)
      have HK9 := hide hK9
      have HI9 := hide hI9
      clear hK9 hI9
      obtain ⟨X1, hX1⟩ : ∃ X1, X1 = (W9.alloc (Obj.cells zeroK.cs.toArray 33)).setCells W9.heap.size 0 r9.k.cs := ⟨_, rfl⟩
      rw [← hX1] at p1 p2 p3
      obtain ⟨q1, q2, q3⟩ := new_var X1 zeroD.cs r9.d.cs 39 (Nat.le_refl _) rfl (Nat.succ_pos _)
      obtain ⟨X2, hX2⟩ : ∃ X2, X2 = (X1.alloc (Obj.cells zeroD.cs.toArray 39)).setCells X1.heap.size 0 r9.d.cs := ⟨_, rfl⟩
      rw [← hX2] at q1 q2 q3
      have hb2 : Below W9.heap.size W9 X2 := p1.trans (q1.mono p1.size)
      refine wpIn_seq ?_
      refine wpIn_region_lit ?_
      refine inV (fun _ => trivial) (by rfl) (by intro c h; cases h) (ex_alloc33 rfl) ?_
      simp only [Act.put, n1, n2, n3]
      refine inS (fun _ => trivial) (by rfl) (by intro c h; cases h) (ex_store (t := 33) (vs := r9.k.cs) rfl rfl rfl rfl (by simp [KK.cs, Value.oneCell']) siz33 (Holds.new W9 zeroK.cs 33) (Nat.le_refl _)) ?_
      simp only [Act.put, n1, n2, n3]
      refine wpListIn_nil ?_
      rw [← hX1]
      refine wpIn_region_lit ?_
      refine inV (fun _ => trivial) (by rfl) (by intro c h; cases h) (ex_alloc39 rfl) ?_
      simp only [Act.put, n1, n2, n3]
      refine inS (fun _ => trivial) (by rfl) (by intro c h; cases h) (ex_store (t := 39) (vs := r9.d.cs) rfl rfl rfl rfl (by simp [DD.cs, VV.cs, Value.oneCell']) siz39 (Holds.new X1 zeroD.cs 39) (Nat.le_refl _)) ?_
      simp only [Act.put, n1, n2, n3]
      refine wpListIn_nil ?_
      rw [← hX2]
      exact (unhide HK9) _ _ _ (kl_fr (Fr.of_below hb2 []) (by simp)) ((unhide HI9).on hb2) (p2.block (q1.block _ (by omega))) q2
    case done =>
      rintro D s9 W9 hD9 hF9 ⟨S1, N1, a, n, hJ, hT, hC, hP, hleft, hn, hsl, hz⟩ hM9
      have hbh : S1.R0.behind a = none := cut_none (hJ.is.cut ⟨s9.m, a, s9.rb⟩ (by rw [hC]; simp)).al (by rw [hT]; exact hF9)
      have hroom := hJ.is.room (by have := Pot.lt hP; have := unhide HM; omega)
      have HBH : Hid (∀ X, S1.R0.Is X → Calls Tryz.prog 42 #[.pointer (some ⟨S.R0.t, 0, none⟩), .int .i64 a] X fun e w' => e = .returned (.tuple #[.agg zeroE.cs.toArray, .bool false]) ∧ Below X.heap.size X w') := hide (fun X hX => by
        have h9 := behind42 S1.R0 a X hX (by omega)
        rw [hbh, hJ.r] at h9
        exact h9)
      have HX : Hid (S1.C = ⟨s9.m, a, s9.rb⟩ :: S.C ∧ Pot S1 N1 ≤ Pot S N + 2 * B ∧ S1.left ≤ S.left ∧ min S.left 0 - (2 * E + 1) ≤ S1.left) := hide ⟨hC, by omega, hsl, by rcases hz with ⟨_, e⟩ | e <;> omega⟩
      have LL := hide (hJ.mark hM9 (Nat.le_trans (unhide HSZ) hD9) (by simp))
      clear hJ hT hC hP hleft hn hsl hz hM9 hD9 hF9 hbh hroom LC
      rw [show ({ target := .collected D, args := #[] } : Deferred) :: [] = marks [D] from rfl]
      go_wp2_with (first | go_skip | ((with_reducible show wpList _ _ _ _ _ _); first | ((with_reducible show wpList _ _ _ (Oper.mk _ (Op.load _ _) _ _ _ _ :: _) _ _); (refine rd (by rfl) (ex_load1 28 Tryz.isAgg28 rfl rfl ((unhide LL).get 4 rfl) rfl) ?_); simp only [Act.put, n1, n2, n3]) | ((with_reducible show wpList _ _ _ (Oper.mk _ (Op.load _ _) _ _ _ _ :: _) _ _); (refine rd (by rfl) (ex_load1 3 Tryz.isAgg3 rfl rfl ((unhide LL).get 5 rfl) rfl) ?_); simp only [Act.put, n1, n2, n3])))
      refine ((unhide HBH) _ (unhide LL).is.bs.r0).mono ?_
      rintro _ X1 ⟨rfl, hb1⟩
      replace LL := hide ((unhide LL).on hb1)
      clear hb1 HBH
      go_wp2_with (first | go_skip | ((with_reducible show wpList _ _ _ _ _ _); first | ((with_reducible show wpList _ _ _ (Oper.mk _ (Op.alloc _) _ _ _ _ :: _) _ _); (refine alP (v := .agg zeroE.cs.toArray) 82 zeroE.cs (by rfl) rfl zero82 rfl (Nat.succ_pos _) (unhide LL) ?_); intro Yz Bz Lz; replace LL := hide Lz; clear Lz; simp only [Act.put, n1, n2, n3]) | ((with_reducible show wpList _ _ _ (Oper.mk _ (Op.store _ _ _) _ _ _ _ :: _) _ _); (refine stP (vs := zeroE.cs) 8 82 (by rfl) rfl rfl rfl rfl (ecs_one zeroE) siz82w (unhide LL) rfl (Nat.le_refl _) ?_); intro Yy Ly; replace LL := hide Ly; clear Ly; simp only [Act.put, n1, n2, n3]) | ((with_reducible show wpList _ _ _ (Oper.mk _ (Op.store _ _ _) _ _ _ _ :: _) _ _); (refine stP (vs := [.bool true]) 3 4 (by rfl) rfl rfl rfl rfl (by simp [Value.oneCell']) (sz1 4) (unhide LL) rfl (Nat.le_refl _) ?_); intro Yw Lw; replace LL := hide Lw; clear Lw; simp only [Act.put, n1, n2, n3])))
      exact leave26 (i := 3) ⟨S1, N1, _, unhide LL, (unhide HX).1, (unhide HX).2.1, (unhide HX).2.2.1, (unhide HX).2.2.2⟩ rfl rfl
    case body =>
      intro l9 s9 r9 Bk Bd W9 hl9 hI9 hV9 hHk hHd
      simp only [encR, zip2, n1, n2, n3]
      obtain ⟨S1, N1, a, n, hJ, hT, hC, hP, hleft, hn, hsl, hz⟩ := hI9
      obtain ⟨x, hbh, hxk, hxd, hxm, hrl, hal⟩ := cut_some hJ.is.rel0 hJ.is.bs.t0 hJ.is.ris.1 (hJ.is.cut ⟨s9.m, a, s9.rb⟩ (by rw [hC]; simp)).al (by rw [hT]; exact hV9)
      have hroom := hJ.is.room (by have := Pot.lt hP; have := unhide HM; omega)
      have HBH : Hid (Calls Tryz.prog 42 #[.pointer (some ⟨S.R0.t, 0, none⟩), .int .i64 a] W9 fun e w' => e = .returned (.tuple #[.agg x.cs.toArray, .bool true]) ∧ Below W9.heap.size W9 w') := hide (by
        have h9 := behind42 S1.R0 a W9 hJ.is.bs.r0 (by omega)
        rw [hbh, hJ.r] at h9
        exact h9)
      have HX := hide (And.intro hxm (And.intro hrl hal))
      have HC := hide hC
      have HP9 : Hid (Pot S1 N1 ≤ Pot S N ∧ s9.left = S1.left.toNat + 1 ∧ (n : Int) + max S1.left 0 ≤ max S.left 0 ∧ S1.left ≤ S.left ∧ ((n = 0 ∧ S1.left = S.left) ∨ 0 < S1.left)) := hide ⟨hP, hleft, hn, hsl, hz⟩
      have HKK : Hid (Holds W9 Bk x.k.cs) := hide (by rw [hxk]; exact hHk)
      have HKD : Hid (Holds W9 Bd x.d.cs) := hide (by rw [hxd]; exact hHd)
      have LK : Hid (PK w W9 W9 S S1 base N1 ((fun a n => [(B3, [.pointer (some ⟨S.P, 0, none⟩)]), (B4, actCs kd k d nn (.slice A m c)), (B5, [.int .i64 dep]), (B6, [.bool false]), (B7, [.pointer (some ⟨S.R0.t, 0, none⟩)]), (B8, [.int .i64 a]), (B9, [.int .i64 (n : Nat)]), (Bn, [.pointer (some ⟨S.T0.t, 0, none⟩)])]) a n) []) := hide ⟨hJ, KL.refl _⟩
      have hnb : n ≤ 10000 := by have h1 := unhide HM; unfold Pot at h1 hP; omega
      clear hJ hT hC hP hleft hn hsl hz hbh hxm hrl hal hHk hHd hroom hV9 LC
      refine wpIn_block ?_
      refine wpIn_seq ?_
      refine plain_round (by kernel_rfl) (by rintro ⟨a, w, h⟩; exact h) ?_
      refine rd (by rfl) (ex_load1 28 Tryz.isAgg28 rfl rfl ((unhide LK).get 4 rfl) rfl) ?_
      simp only [Act.put, n1, n2, n3]
      refine rd (by rfl) (ex_load1 3 Tryz.isAgg3 rfl rfl ((unhide LK).get 5 rfl) rfl) ?_
      simp only [Act.put, n1, n2, n3]
      refine clL (by rfl) (by kernel_rfl) (unhide HBH) ?_
      rintro _ X1 ⟨rfl, hb1⟩
      refine ⟨_, rfl, ?_⟩
      replace LK := hide ((unhide LK).on hb1)
      replace HKK := hide ((unhide HKK).block (hb1.block Bk ((unhide HKK).lt (Nat.succ_pos _))))
      replace HKD := hide ((unhide HKD).block (hb1.block Bd ((unhide HKD).lt (Nat.succ_pos _))))
      clear hb1 HBH
      simp only [Act.put, n1, n2, n3]
      refine rd (v := .tuple #[.agg x.cs.toArray, .bool true]) (by rfl) (by kernel_rfl) ?_
      simp only [Act.put, n1, n2, n3]
      refine rd (v := .agg x.cs.toArray) (by rfl) (by kernel_rfl) ?_
      simp only [Act.put, n1, n2, n3]
      refine rd (v := .bool true) (by rfl) (by kernel_rfl) ?_
      simp only [Act.put, n1, n2, n3]
      have hlk := And.intro ((unhide HKK).lt (Nat.succ_pos _)) ((unhide HKD).lt (Nat.succ_pos _))
      refine alKp 82 zeroE.cs (by rfl) rfl zero82 rfl (Nat.succ_pos _) (unhide LK) ?_
      intro Z1 B13 hbz hB13 hL1
      replace HKK := hide ((unhide HKK).block (hbz.block Bk hlk.1))
      replace HKD := hide ((unhide HKD).block (hbz.block Bd hlk.2))
      have HNE : Hid (Bk ≠ B13 ∧ Bd ≠ B13) := hide ⟨by omega, by omega⟩
      replace LK := hide hL1
      have hlk2 := And.intro ((unhide HKK).lt (Nat.succ_pos _)) ((unhide HKD).lt (Nat.succ_pos _))
      clear hbz hB13 hL1 hlk
      simp only [Act.put, n1, n2, n3]
      refine stKp (vs := x.cs) 8 82 (by rfl) rfl rfl rfl rfl (ecs_one x) siz82w (unhide LK) rfl (Nat.le_refl _) ?_
      intro Z2 hf2 hL2
      replace HKK := hide ((unhide HKK).block (hf2.block Bk hlk2.1 (by simpa using (unhide HNE).1)))
      replace HKD := hide ((unhide HKD).block (hf2.block Bd hlk2.2 (by simpa using (unhide HNE).2)))
      have LM : Hid (PK w W9 Z2 S S1 base N1 ((fun a n => [(B3, [.pointer (some ⟨S.P, 0, none⟩)]), (B4, actCs kd k d nn (.slice A m c)), (B5, [.int .i64 dep]), (B6, [.bool false]), (B7, [.pointer (some ⟨S.R0.t, 0, none⟩)]), (B8, [.int .i64 a]), (B9, [.int .i64 (n : Nat)]), (Bn, [.pointer (some ⟨S.T0.t, 0, none⟩)])]) a n ++ [(B13, x.cs)]) []) := hide hL2
      clear hf2 hL2 hlk2 LK HNE
      simp only [Act.put, n1, n2, n3]
      refine rd (v := .bool true) (by rfl) (by kernel_rfl) ?_
      simp only [Act.put, n1, n2, n3]
      refine wpIn_seq ?_
      refine wpIn_seq ?_
      refine plain_round (by kernel_rfl) (by rintro ⟨a, w, h⟩; exact h) ?_
      refine rd (v := .bool true) (by rfl) (by kernel_rfl) ?_
      simp only [Act.put, n1, n2, n3]
      refine rd (v := .bool false) (by rfl) (by kernel_rfl) ?_
      simp only [Act.put, n1, n2, n3]
      refine rd (v := .bool false) (by rfl) (by kernel_rfl) ?_
      simp only [Act.put, n1, n2, n3]
      refine rd (by rfl) (ex_loadN (vs := x.k.cs) 33 2 row33x siz33 rfl rfl (unhide HKK) rfl rfl) ?_
      simp only [Act.put, n1, n2, n3]
      refine rd (v := .pointer (some ⟨B13, 0, none⟩)) (by rfl) (by kernel_rfl) ?_
      simp only [Act.put, n1, n2, n3]
      refine rd (by rfl) (ex_loadN (vs := x.k.cs) 33 2 row33x siz33 rfl rfl ((unhide LM).get 8 rfl) rfl rfl) ?_
      simp only [Act.put, n1, n2, n3]
      refine rd (by rfl) (ex_neqKK x.k rfl rfl rfl) ?_
      simp only [Act.put, n1, n2, n3]
      refine rd (v := .bool false) (by rfl) (by kernel_rfl) ?_
      simp only [Act.put, n1, n2, n3]
      refine rd (v := .bool false) (by rfl) (by kernel_rfl) ?_
      simp only [Act.put, n1, n2, n3]
      refine rd (by rfl) (ex_loadN (vs := x.d.cs) 39 18 row39 siz39 rfl rfl (unhide HKD) rfl rfl) ?_
      simp only [Act.put, n1, n2, n3]
      refine rd (v := .pointer (some ⟨B13, 2, none⟩)) (by rfl) (by kernel_rfl) ?_
      simp only [Act.put, n1, n2, n3]
      refine rd (by rfl) (ex_loadN (vs := x.d.cs) 39 18 row39 siz39 rfl rfl ((unhide LM).get 8 rfl) rfl rfl) ?_
      simp only [Act.put, n1, n2, n3]
      refine clL (by rfl) (by kernel_rfl) (sameDesc21 x.d Z2) ?_
      rintro _ Z3 ⟨rfl, hb3⟩
      refine ⟨_, rfl, ?_⟩
      replace LM := hide ((unhide LM).on hb3)
      clear hb3 HKK HKD
      simp only [Act.put, n1, n2, n3]
      refine rd (v := .bool false) (by rfl) (by kernel_rfl) ?_
      simp only [Act.put, n1, n2, n3]
      refine rd (v := .bool false) (by rfl) (by kernel_rfl) ?_
      simp only [Act.put, n1, n2, n3]
      refine wl_nil ?_
      have hI3 := (unhide LM).pj.is
      have LN : Hid (PK w W9 Z3 S { S1 with C := ⟨r9.n, x.n, some r9.b⟩ :: S.C } base N1 ((fun a n => [(B3, [.pointer (some ⟨S.P, 0, none⟩)]), (B4, actCs kd k d nn (.slice A m c)), (B5, [.int .i64 dep]), (B6, [.bool false]), (B7, [.pointer (some ⟨S.R0.t, 0, none⟩)]), (B8, [.int .i64 a]), (B9, [.int .i64 (n : Nat)]), (Bn, [.pointer (some ⟨S.T0.t, 0, none⟩)])]) a n ++ [(B13, x.cs)]) []) := hide ((unhide LM).setC (fun c' hc => by
        rcases List.mem_cons.1 hc with rfl | hc
        · exact cut_row hI3 (unhide HX).2.1 (unhide HX).1 (unhide HX).2.2
        · exact hI3.cut c' (by rw [unhide HC]; exact List.mem_cons_of_mem _ hc)) (fun c' hc b e => by
        rcases List.mem_cons.1 hc with rfl | hc
        · obtain rfl : r9.b = b := Option.some.inj e
          exact fun q hq e2 => (unhide LM).pj.sep q hq (e2 ▸ (row_cold hI3.bs (List.mem_filter.1 (unhide HX).2.1).1).2)
        · exact (unhide LM).pj.cs c' (by rw [unhide HC]; exact List.mem_cons_of_mem _ hc) b e))
      clear hI3 LM
      obtain ⟨S2, hS2⟩ : ∃ S2, S2 = { S1 with C := ⟨r9.n, x.n, some r9.b⟩ :: S.C } := ⟨_, rfl⟩
      have HS2 : Hid (S2.C = ⟨r9.n, x.n, some r9.b⟩ :: S.C ∧ S2.left = S1.left ∧ Pot S2 N1 = Pot S1 N1) := hide (by rw [hS2]; exact ⟨rfl, rfl, rfl⟩)
      rw [← hS2] at LN
      clear hS2
      have hw2 : IntKind.i64.wrap (2 * (n : Int)) = ((2 * n : Nat) : Int) := by rw [IntKind.wrap_i64]; omega
      gi_wp2_with (first | go_skip | ((with_reducible show wpListIn _ _ _ _ _ _ _ _); first | ((with_reducible show wpListIn _ _ _ _ _ (Oper.mk _ (Op.load _ _) _ _ _ _ :: _) _ _); (refine inV (fun _ => trivial) (by rfl) (by intro c h; cases h) (ex_load1 3 Tryz.isAgg3 rfl rfl ((unhide LN).get 8 rfl) rfl) ?_); simp only [Act.put, n1, n2, n3]) | ((with_reducible show wpListIn _ _ _ _ _ (Oper.mk _ (Op.load _ _) _ _ _ _ :: _) _ _); (refine inV (fun _ => trivial) (by rfl) (by intro c h; cases h) (ex_load1 3 Tryz.isAgg3 rfl rfl ((unhide LN).get 6 rfl) rfl) ?_); simp only [Act.put, n1, n2, n3]) | ((with_reducible show wpListIn _ _ _ _ _ (Oper.mk _ (Op.binOp _ _ _ _ _) _ _ _ _ :: _) _ _); (refine inV (fun _ => trivial) (by rfl) (by intro c h; cases h) (ex_mulW rfl rfl rfl hw2) ?_); simp only [Act.put, n1, n2, n3]) | ((with_reducible show wpListIn _ _ _ _ _ (Oper.mk _ (Op.store _ _ _) _ _ _ _ :: _) _ _); (refine stR (vs := [.int .i64 x.n]) 5 3 (fun _ => trivial) (by rfl) (by intro c h; cases h) rfl rfl rfl rfl (by simp [Value.oneCell']) (sz1 3) (unhide LN) rfl (Nat.le_refl _) ?_); intro Z4 L4; replace LN := hide L4; clear L4; simp only [Act.put, n1, n2, n3])))
      gi_loopg [15] 2 (fun gm s15 wq => ∃ (j q N2 : Nat) (S3 : PS), s15 = .int .i64 (q : Nat) ∧ j ≤ 2 ∧ 2 - j ≤ gm ∧ q = 2 * n + j ∧ Hid (PK w W9 wq S S3 base N2 ((fun a n => [(B3, [.pointer (some ⟨S.P, 0, none⟩)]), (B4, actCs kd k d nn (.slice A m c)), (B5, [.int .i64 dep]), (B6, [.bool false]), (B7, [.pointer (some ⟨S.R0.t, 0, none⟩)]), (B8, [.int .i64 a]), (B9, [.int .i64 (n : Nat)]), (Bn, [.pointer (some ⟨S.T0.t, 0, none⟩)])]) x.n n ++ [(B13, x.cs)]) [] ∧ S3.C = ⟨r9.n, x.n, some r9.b⟩ :: S.C ∧ Pot S3 N2 ≤ Pot S1 N1 + (j * B : Nat) ∧ S3.left ≤ S1.left ∧ min S1.left 0 - (j * E : Nat) ≤ S3.left))
      case atStart => exact ⟨0, 2 * n, N1, S2, by simp, by omega, by omega, rfl, hide ⟨unhide LN, (unhide HS2).1, by rw [(unhide HS2).2.2]; omega, Int.le_of_eq (unhide HS2).2.1, by rw [(unhide HS2).2.1]; omega⟩⟩
      case round =>
        clear LN HS2 hw2
        obtain ⟨j, q, N2, S3, rfl, hj2, hgm, hqj, HI⟩ := hrel
        have LN := hide (unhide HI).1
        have hw2 : IntKind.i64.wrap (2 * (n : Int)) = 2 * (n : Int) := by rw [IntKind.wrap_i64]; omega
        have hwA : IntKind.i64.wrap (2 * (n : Int) + 2) = 2 * (n : Int) + 2 := by rw [IntKind.wrap_i64]; omega
        have hwq : IntKind.i64.wrap ((q : Int) + 1) = (q : Int) + 1 := by rw [IntKind.wrap_i64]; omega
        have hwd : IntKind.i64.wrap (dep + 1) = dep + 1 := by rw [IntKind.wrap_i64]; omega
        have HQJ := hide hqj
        by_cases hlt : j < 2 ∧ q < m
        · have dq : decide ((q : Int) < 2 * (n : Int) + 2) = true := decide_eq_true (by omega)
          have dm : decide ((q : Int) < (m : Int)) = true := decide_eq_true (by omega)
          have HJ2 := hide hlt.1
          have HQM := hide hlt.2
          obtain ⟨g, off, kd', k', d', nn', inner', hA, hg, hok, hrg, hin⟩ := (unhide HR) q hlt.2
          subst hA
          have HRG : Hid (∀ X, Fr w X S.parts.flatten → X.rangeAt g (off + q * 23) (actCs kd' k' d' nn' inner')) := hide (fun X hX => rng_on hrg (((unhide HLW) X hX).block g hg))
          have HIN : Hid (∀ X, Fr w X S.parts.flatten → RdA f X base inner') := hide (fun X hX => RdA.on ((unhide HLW) X hX) f inner' hin)
          have HOK := hide hok
          clear hg hok hrg hin hlt hqj
          gi_wp2_with (first | go_skip | ((with_reducible show wpListIn _ _ _ _ _ _ _ _); first | ((with_reducible show wpListIn _ _ _ _ _ (Oper.mk _ (Op.load _ _) _ _ _ _ :: _) _ _); (refine inV (fun _ => trivial) (by rfl) (by intro c h; cases h) (ex_load1 3 Tryz.isAgg3 rfl rfl ((unhide LN).get 6 rfl) rfl) ?_); simp only [Act.put, n1, n2, n3]) | ((with_reducible show wpListIn _ _ _ _ _ (Oper.mk _ (Op.binOp _ _ _ _ _) _ _ _ _ :: _) _ _); (refine inV (fun _ => trivial) (by rfl) (by intro c h; cases h) (ex_mulW rfl rfl rfl hw2) ?_); simp only [Act.put, n1, n2, n3]) | ((with_reducible show wpListIn _ _ _ _ _ (Oper.mk _ (Op.binOp _ _ _ _ _) _ _ _ _ :: _) _ _); (refine inV (fun _ => trivial) (by rfl) (by intro c h; cases h) (ex_addW rfl rfl rfl hwA) ?_); simp only [Act.put, n1, n2, n3]) | ((with_reducible show wpListIn _ _ _ _ _ (Oper.mk _ (Op.binOp _ _ _ _ _) _ _ _ _ :: _) _ _); (refine inV (fun _ => trivial) (by rfl) (by intro c h; cases h) (ex_cmpI rfl rfl rfl (.inl ⟨rfl, dq⟩)) ?_); simp only [Act.put, n1, n2, n3]) | ((with_reducible show wpListIn _ _ _ _ _ (Oper.mk _ (Op.binOp _ _ _ _ _) _ _ _ _ :: _) _ _); (refine inV (fun _ => trivial) (by rfl) (by intro c h; cases h) (ex_cmpI rfl rfl rfl (.inl ⟨rfl, dm⟩)) ?_); simp only [Act.put, n1, n2, n3]) | ((with_reducible show wpListIn _ _ _ _ _ (Oper.mk _ (Op.load _ _) _ _ _ _ :: _) _ _); (refine inV (fun _ => trivial) (by rfl) (by intro c h; cases h) (ex_load1 22 Tryz.isAgg22 rfl rfl ((unhide LN).get 1 rfl) rfl) ?_); simp only [Act.put, n1, n2, n3]) | ((with_reducible show wpListIn _ _ _ _ _ (Oper.mk _ (Op.call _) _ _ _ _ :: _) _ _); (refine inV (fun _ => trivial) (by rfl) (by intro c h; cases h) (ex_lenG 22 41 Tryz.underlying22 rfl rfl) ?_); simp only [Act.put, n1, n2, n3])))
          have hJB : j * B ≤ B ∧ (j + 1) * B = j * B + B ∧ j * E ≤ E ∧ (j + 1) * E = j * E + E := by
            have h1 := unhide HJ2
            refine ⟨?_, Nat.succ_mul _ _, ?_, Nat.succ_mul _ _⟩
            · have := Nat.mul_le_mul_right B (show j ≤ 1 by omega); omega
            · have := Nat.mul_le_mul_right E (show j ≤ 1 by omega); omega
          have HJB := hide hJB
          clear hJB
          refine region_round (S := fun X => ∃ S4 N4, PK w W9 X S S4 base N4 ((fun a n => [(B3, [.pointer (some ⟨S.P, 0, none⟩)]), (B4, actCs kd k d nn (.slice (some ⟨g, off, none⟩) m c)), (B5, [.int .i64 dep]), (B6, [.bool false]), (B7, [.pointer (some ⟨S.R0.t, 0, none⟩)]), (B8, [.int .i64 a]), (B9, [.int .i64 (n : Nat)]), (Bn, [.pointer (some ⟨S.T0.t, 0, none⟩)])]) x.n n ++ [(B13, x.cs)]) []) (by kernel_rfl) (by kernel_rfl) (by rintro ⟨a, w, h⟩; exact h) ?_
          have hk0 := (unhide LN).on ((Below.refl _ _).drew)
          have hs0 : ∃ S4 N4, PK w W9 _ S S4 base N4 ((fun a n => [(B3, [.pointer (some ⟨S.P, 0, none⟩)]), (B4, actCs kd k d nn (.slice (some ⟨g, off, none⟩) m c)), (B5, [.int .i64 dep]), (B6, [.bool false]), (B7, [.pointer (some ⟨S.R0.t, 0, none⟩)]), (B8, [.int .i64 a]), (B9, [.int .i64 (n : Nat)]), (Bn, [.pointer (some ⟨S.T0.t, 0, none⟩)])]) x.n n ++ [(B13, x.cs)]) [] := ⟨_, _, hk0⟩
          refine gsem 0 (some 76) (.pointer (some ⟨B4, 22, none⟩)) rfl (by kernel_rfl) (by kernel_rfl) (by kernel_rfl) (fun _ _ _ h => h) (by kernel_rfl) (by kernel_rfl) (fun _ _ => by kernel_rfl) hs0 ?_
          simp only [Act.put, n1, n2, n3]
          refine gsem 1 (some 77) (.slice (some ⟨g, off, none⟩) m c) rfl (by kernel_rfl) (by kernel_rfl) (by kernel_rfl) (fun _ _ _ h => h) (by kernel_rfl) (by kernel_rfl) (fun X hX => by obtain ⟨S9, N9, hR9⟩ := hX; exact ex_load1 22 Tryz.isAgg22 rfl rfl (hR9.get 1 rfl) rfl) hs0 ?_
          simp only [Act.put, n1, n2, n3]
          refine gsem 2 (some 78) (.int .i64 (q : Nat)) rfl (by kernel_rfl) (by kernel_rfl) (by kernel_rfl) (fun _ _ _ h => h) (by kernel_rfl) (by kernel_rfl) (fun _ _ => by kernel_rfl) hs0 ?_
          simp only [Act.put, n1, n2, n3]
          refine gsem 3 (some 79) (.pointer (some ⟨g, off + q * 23, none⟩)) rfl (by kernel_rfl) (by kernel_rfl) (by kernel_rfl) (fun _ _ _ h => h) (by kernel_rfl) (by kernel_rfl) (fun X hX => ex_indexG 22 23 q und22 idx22 rfl rfl rfl (unhide HQM)) hs0 ?_
          simp only [Act.put, n1, n2, n3]
          refine gsem 4 (some 80) (.pointer (some ⟨g, off + q * 23, none⟩)) rfl (by kernel_rfl) (by kernel_rfl) (by kernel_rfl) (fun _ _ _ h => h) (by kernel_rfl) (by kernel_rfl) (fun _ _ => by kernel_rfl) hs0 ?_
          simp only [Act.put, n1, n2, n3]
          refine gsem 5 (some 81) (.int .i64 kd') rfl (by kernel_rfl) (by kernel_rfl) (by kernel_rfl) (fun _ _ _ h => h) (by kernel_rfl) (by kernel_rfl) (fun X hX => by obtain ⟨S9, N9, hR9⟩ := hX; exact ex_loadC (B := g) (p := off + q * 23) 3 Tryz.isAgg3 rfl rfl ((unhide HRG) X hR9.pj.fr 0 _ rfl)) hs0 ?_
          simp only [Act.put, n1, n2, n3]
          by_cases h10 : kd' = 10
          · have hne : (kd' != 10) = false := by simp [h10]
            refine gsem 6 (some 82) (.bool false) rfl (by kernel_rfl) (by kernel_rfl) (by kernel_rfl) (fun _ _ _ h => h) (by kernel_rfl) (by kernel_rfl) (fun X hX => ex_cmpI rfl rfl rfl (.inr (.inr (.inr ⟨rfl, hne⟩)))) hs0 ?_
            simp only [Act.put, n1, n2, n3]
            refine gsem 7 (some 83) (.bool false) rfl (by kernel_rfl) (by kernel_rfl) (by kernel_rfl) (fun _ _ _ h => h) (by kernel_rfl) (by kernel_rfl) (fun _ _ => by kernel_rfl) hs0 ?_
            simp only [Act.put, n1, n2, n3]
            refine gskip 8 (some 84) rfl (by kernel_rfl) (by kernel_rfl) (by kernel_rfl) (fun _ _ _ h => h) (by kernel_rfl) (by kernel_rfl) hs0 ?_
            simp only [Act.put, n1, n2, n3]
            refine gskip 9 (some 85) rfl (by kernel_rfl) (by kernel_rfl) (by kernel_rfl) (fun _ _ _ h => h) (by kernel_rfl) (by kernel_rfl) hs0 ?_
            simp only [Act.put, n1, n2, n3]
            refine gskip 10 (some 86) rfl (by kernel_rfl) (by kernel_rfl) (by kernel_rfl) (fun _ _ _ h => h) (by kernel_rfl) (by kernel_rfl) hs0 ?_
            simp only [Act.put, n1, n2, n3]
            refine gskip 11 (some 87) rfl (by kernel_rfl) (by kernel_rfl) (by kernel_rfl) (fun _ _ _ h => h) (by kernel_rfl) (by kernel_rfl) hs0 ?_
            simp only [Act.put, n1, n2, n3]
            refine gskip 12 (some 88) rfl (by kernel_rfl) (by kernel_rfl) (by kernel_rfl) (fun _ _ _ h => h) (by kernel_rfl) (by kernel_rfl) hs0 ?_
            simp only [Act.put, n1, n2, n3]
            refine gskip 13 (some 89) rfl (by kernel_rfl) (by kernel_rfl) (by kernel_rfl) (fun _ _ _ h => h) (by kernel_rfl) (by kernel_rfl) hs0 ?_
            simp only [Act.put, n1, n2, n3]
            refine gskip 14 (some 90) rfl (by kernel_rfl) (by kernel_rfl) (by kernel_rfl) (fun _ _ _ h => h) (by kernel_rfl) (by kernel_rfl) hs0 ?_
            simp only [Act.put, n1, n2, n3]
            refine gskip 15 (some 91) rfl (by kernel_rfl) (by kernel_rfl) (by kernel_rfl) (fun _ _ _ h => h) (by kernel_rfl) (by kernel_rfl) hs0 ?_
            simp only [Act.put, n1, n2, n3]
            refine gskip 16 (some 92) rfl (by kernel_rfl) (by kernel_rfl) (by kernel_rfl) (fun _ _ _ h => h) (by kernel_rfl) (by kernel_rfl) hs0 ?_
            simp only [Act.put, n1, n2, n3]
            refine gskip 17 (some 93) rfl (by kernel_rfl) (by kernel_rfl) (by kernel_rfl) (fun _ _ _ h => h) (by kernel_rfl) (by kernel_rfl) hs0 ?_
            simp only [Act.put, n1, n2, n3]
            refine gsem 18 (some 94) (.bool false) rfl (by kernel_rfl) (by kernel_rfl) (by kernel_rfl) (fun _ _ _ h => h) (by kernel_rfl) (by kernel_rfl) (fun _ _ => by kernel_rfl) hs0 ?_
            simp only [Act.put, n1, n2, n3]
            refine wpAnyH_done (by kernel_rfl) ?_ _
            try simp only [Act.put, n1, n2, n3]
            replace LN := hide hk0
            clear hk0 hs0 h10 hne
            gi_wp2_with (first | go_skip | ((with_reducible show wpListIn _ _ _ _ _ _ _ _); first | ((with_reducible show wpListIn _ _ _ _ _ (Oper.mk _ (Op.binOp _ _ _ _ _) _ _ _ _ :: _) _ _); (refine inV (fun _ => trivial) (by rfl) (by intro c h; cases h) (ex_addW rfl rfl rfl hwq) ?_); simp only [Act.put, n1, n2, n3])))
            gi_roundg (2 - (j + 1))
            case measure => have := unhide HJ2; omega
            case rel => exact ⟨j + 1, q + 1, N2, S3, by go_num, by have := unhide HJ2; omega, Nat.le_refl _, by have := unhide HQJ; omega, hide ⟨unhide LN, (unhide HI).2.1, by have h1 := (unhide HI).2.2.1; have h2 := (unhide HJB).2.1; omega, (unhide HI).2.2.2.1, by have h1 := (unhide HI).2.2.2.2; have h2 := (unhide HJB).2.2.2; omega⟩⟩
          · have hne : (kd' != 10) = true := by simp [h10]
            refine gsem 6 (some 82) (.bool true) rfl (by kernel_rfl) (by kernel_rfl) (by kernel_rfl) (fun _ _ _ h => h) (by kernel_rfl) (by kernel_rfl) (fun X hX => ex_cmpI rfl rfl rfl (.inr (.inr (.inr ⟨rfl, hne⟩)))) hs0 ?_
            simp only [Act.put, n1, n2, n3]
            refine gsem 7 (some 83) (.bool true) rfl (by kernel_rfl) (by kernel_rfl) (by kernel_rfl) (fun _ _ _ h => h) (by kernel_rfl) (by kernel_rfl) (fun _ _ => by kernel_rfl) hs0 ?_
            simp only [Act.put, n1, n2, n3]
            refine gsem 8 (some 84) (.pointer (some ⟨S.P, 0, none⟩)) rfl (by kernel_rfl) (by kernel_rfl) (by kernel_rfl) (fun _ _ _ h => h) (by kernel_rfl) (by kernel_rfl) (fun X hX => by obtain ⟨S9, N9, hR9⟩ := hX; exact ex_load1 24 Tryz.isAgg24 rfl rfl (hR9.get 0 rfl) rfl) hs0 ?_
            simp only [Act.put, n1, n2, n3]
            refine gsem 9 (some 85) (.pointer (some ⟨B4, 22, none⟩)) rfl (by kernel_rfl) (by kernel_rfl) (by kernel_rfl) (fun _ _ _ h => h) (by kernel_rfl) (by kernel_rfl) (fun _ _ => by kernel_rfl) hs0 ?_
            simp only [Act.put, n1, n2, n3]
            refine gsem 10 (some 86) (.slice (some ⟨g, off, none⟩) m c) rfl (by kernel_rfl) (by kernel_rfl) (by kernel_rfl) (fun _ _ _ h => h) (by kernel_rfl) (by kernel_rfl) (fun X hX => by obtain ⟨S9, N9, hR9⟩ := hX; exact ex_load1 22 Tryz.isAgg22 rfl rfl (hR9.get 1 rfl) rfl) hs0 ?_
            simp only [Act.put, n1, n2, n3]
            refine gsem 11 (some 87) (.int .i64 (q : Nat)) rfl (by kernel_rfl) (by kernel_rfl) (by kernel_rfl) (fun _ _ _ h => h) (by kernel_rfl) (by kernel_rfl) (fun _ _ => by kernel_rfl) hs0 ?_
            simp only [Act.put, n1, n2, n3]
            refine gsem 12 (some 88) (.pointer (some ⟨g, off + q * 23, none⟩)) rfl (by kernel_rfl) (by kernel_rfl) (by kernel_rfl) (fun _ _ _ h => h) (by kernel_rfl) (by kernel_rfl) (fun X hX => ex_indexG 22 23 q und22 idx22 rfl rfl rfl (unhide HQM)) hs0 ?_
            simp only [Act.put, n1, n2, n3]
            refine gsem 13 (some 89) (actV kd' k' d' nn' inner') rfl (by kernel_rfl) (by kernel_rfl) (by kernel_rfl) (fun _ _ _ h => h) (by kernel_rfl) (by kernel_rfl) (fun X hX => by obtain ⟨S9, N9, hR9⟩ := hX; exact ex_loadR (B := g) (p := off + q * 23) (vs := actCs kd' k' d' nn' inner') 41 23 row41 siz41 rfl rfl ((unhide HRG) X hR9.pj.fr) rfl) hs0 ?_
            simp only [Act.put, n1, n2, n3]
            refine gsem 14 (some 90) (.int .i64 dep) rfl (by kernel_rfl) (by kernel_rfl) (by kernel_rfl) (fun _ _ _ h => h) (by kernel_rfl) (by kernel_rfl) (fun X hX => by obtain ⟨S9, N9, hR9⟩ := hX; exact ex_load1 3 Tryz.isAgg3 rfl rfl (hR9.get 2 rfl) rfl) hs0 ?_
            simp only [Act.put, n1, n2, n3]
            refine gsem 15 (some 91) (.int .i64 (dep + 1)) rfl (by kernel_rfl) (by kernel_rfl) (by kernel_rfl) (fun _ _ _ h => h) (by kernel_rfl) (by kernel_rfl) (fun X hX => ex_addW rfl rfl rfl hwd) hs0 ?_
            simp only [Act.put, n1, n2, n3]
            have HPc := hide ((unhide HP) S3 kd' k' d' nn' inner' _ base N2 hk0.pj.is (by
              have h1 := (unhide HI).2.2.1
              have h2 := (unhide HJB).1
              have h3 := unhide HM
              have h4 := (unhide HP9).1
              omega) (by
              have h1 := (unhide HI).2.2.2.2
              have h2 := (unhide HJB).2.2.1
              have h3 := unhide HLO
              have h4 := (unhide HP9).2.2.2.2
              rcases h4 with ⟨_, h5⟩ | h5 <;> omega) (fun X hX => (unhide HU) X (((unhide HLW) _ hk0.pj.fr).trans hX)) (unhide HOK) ((unhide HIN) _ hk0.pj.fr) (fun e => absurd e h10))
            rw [hk0.pj.P] at HPc
            refine wpAnyH_ready (rs := [16]) (by kernel_rfl) (by simp) (gcallR 16 (some 92) rfl (by kernel_rfl) (by kernel_rfl) (by kernel_rfl) (unhide HPc) ?_ AllReadyH.nil)
            rintro _ X4 ⟨rfl, S4, N4, hS4, hW4, hP4, hl4⟩
            have hk4 := hk0.step hS4 hW4 (by rw [(unhide HI).2.1]; simp)
            have HI4 : Hid (S4.C = ⟨r9.n, x.n, some r9.b⟩ :: S.C ∧ Pot S4 N4 ≤ Pot S1 N1 + ((j + 1) * B : Nat) ∧ S4.left ≤ S1.left ∧ min S1.left 0 - ((j + 1) * E : Nat) ≤ S4.left) := hide ⟨hW4.C.trans (unhide HI).2.1, by have h1 := (unhide HI).2.2.1; have h2 := (unhide HJB).2.1; omega, Int.le_trans hW4.left (unhide HI).2.2.2.1, by have h1 := (unhide HI).2.2.2.2; have h2 := (unhide HJB).2.2.2; omega⟩
            have hs4 : ∃ S4 N4, PK w W9 _ S S4 base N4 ((fun a n => [(B3, [.pointer (some ⟨S.P, 0, none⟩)]), (B4, actCs kd k d nn (.slice (some ⟨g, off, none⟩) m c)), (B5, [.int .i64 dep]), (B6, [.bool false]), (B7, [.pointer (some ⟨S.R0.t, 0, none⟩)]), (B8, [.int .i64 a]), (B9, [.int .i64 (n : Nat)]), (Bn, [.pointer (some ⟨S.T0.t, 0, none⟩)])]) x.n n ++ [(B13, x.cs)]) [] := ⟨_, _, hk4⟩
            refine ⟨_, rfl, hs4, ?_⟩
            replace LN := hide hk4
            clear hk0 hs0 hS4 hW4 hP4 hl4 hk4 HPc
            simp only [Act.put, n1, n2, n3]
            refine gsem 17 (some 93) (.bool false) rfl (by kernel_rfl) (by kernel_rfl) (by kernel_rfl) (fun _ _ _ h => h) (by kernel_rfl) (by kernel_rfl) (fun _ _ => by kernel_rfl) hs4 ?_
            simp only [Act.put, n1, n2, n3]
            refine gsem 18 (some 94) (.bool false) rfl (by kernel_rfl) (by kernel_rfl) (by kernel_rfl) (fun _ _ _ h => h) (by kernel_rfl) (by kernel_rfl) (fun _ _ => by kernel_rfl) hs4 ?_
            simp only [Act.put, n1, n2, n3]
            refine wpAnyH_done (by kernel_rfl) ?_ _
            try simp only [Act.put, n1, n2, n3]
            clear hs4 h10 hne
            gi_wp2_with (first | go_skip | ((with_reducible show wpListIn _ _ _ _ _ _ _ _); first | ((with_reducible show wpListIn _ _ _ _ _ (Oper.mk _ (Op.binOp _ _ _ _ _) _ _ _ _ :: _) _ _); (refine inV (fun _ => trivial) (by rfl) (by intro c h; cases h) (ex_addW rfl rfl rfl hwq) ?_); simp only [Act.put, n1, n2, n3])))
            gi_roundg (2 - (j + 1))
            case measure => have := unhide HJ2; omega
            case rel => exact ⟨j + 1, q + 1, N4, S4, by go_num, by have := unhide HJ2; omega, Nat.le_refl _, by have := unhide HQJ; omega, hide ⟨unhide LN, unhide HI4⟩⟩
        · have hjE : j * B ≤ 2 * B ∧ j * E ≤ 2 * E := ⟨Nat.mul_le_mul_right B hj2, Nat.mul_le_mul_right E hj2⟩
          have HT : Hid (S3.C = ⟨r9.n, x.n, some r9.b⟩ :: S.C ∧ Pot { S3 with left := S3.left - 1 } N2 ≤ Pot S N + 2 * B ∧ S3.left - 1 ≤ S.left ∧ min S.left 0 - (2 * E + 1) ≤ S3.left - 1 ∧ (Pot S3 N2 ≤ Pot S N + 2 * B ∧ S3.left ≤ S1.left)) := hide (by
            have h1 := (unhide HI).2
            have h2 := unhide HP9
            have h3 : Pot { S3 with left := S3.left - 1 } N2 ≤ Pot S3 N2 := by unfold Pot; show (N2 : Int) + 128 * max (S3.left - 1) 0 ≤ (N2 : Int) + 128 * max S3.left 0; omega
            refine ⟨h1.1, by omega, by omega, ?_, by omega, h1.2.2.1⟩
            rcases h2.2.2.2.2 with ⟨_, h5⟩ | h5 <;> omega)
          have hwn : IntKind.i64.wrap ((n : Int) + 1) = (n : Int) + 1 := by rw [IntKind.wrap_i64]; omega
          have hwl : IntKind.i64.wrap (S3.left - 1) = S3.left - 1 := by
            have h1 := unhide HT
            have h2 := unhide HLO
            have h3 := unhide HM
            rw [IntKind.wrap_i64]
            unfold Pot at h3
            omega
          clear hjE
          by_cases hj : j < 2
          · have dq : decide ((q : Int) < 2 * (n : Int) + 2) = true := decide_eq_true (by omega)
            have dm : decide ((q : Int) < (m : Int)) = false := decide_eq_false (by omega)
            clear hlt hqj
            by_cases hge : nn ≤ (n : Int) + 1
            · have dg : decide ((n : Int) + 1 ≥ nn) = true := decide_eq_true hge
              have dl : True := trivial
              gi_wp2_with (first | go_skip | ((with_reducible show wpListIn _ _ _ _ _ _ _ _); first | ((with_reducible show wpListIn _ _ _ _ _ (Oper.mk _ (Op.load _ _) _ _ _ _ :: _) _ _); (refine inV (fun _ => trivial) (by rfl) (by intro c h; cases h) (ex_load1 3 Tryz.isAgg3 rfl rfl ((unhide LN).get 6 rfl) rfl) ?_); simp only [Act.put, n1, n2, n3]) | ((with_reducible show wpListIn _ _ _ _ _ (Oper.mk _ (Op.binOp _ _ _ _ _) _ _ _ _ :: _) _ _); (refine inV (fun _ => trivial) (by rfl) (by intro c h; cases h) (ex_mulW rfl rfl rfl hw2) ?_); simp only [Act.put, n1, n2, n3]) | ((with_reducible show wpListIn _ _ _ _ _ (Oper.mk _ (Op.binOp _ _ _ _ _) _ _ _ _ :: _) _ _); (refine inV (fun _ => trivial) (by rfl) (by intro c h; cases h) (ex_addW rfl rfl rfl hwA) ?_); simp only [Act.put, n1, n2, n3]) | ((with_reducible show wpListIn _ _ _ _ _ (Oper.mk _ (Op.binOp _ _ _ _ _) _ _ _ _ :: _) _ _); (refine inV (fun _ => trivial) (by rfl) (by intro c h; cases h) (ex_cmpI rfl rfl rfl (.inl ⟨rfl, dq⟩)) ?_); simp only [Act.put, n1, n2, n3]) | ((with_reducible show wpListIn _ _ _ _ _ (Oper.mk _ (Op.binOp _ _ _ _ _) _ _ _ _ :: _) _ _); (refine inV (fun _ => trivial) (by rfl) (by intro c h; cases h) (ex_cmpI rfl rfl rfl (.inl ⟨rfl, dm⟩)) ?_); simp only [Act.put, n1, n2, n3]) | ((with_reducible show wpListIn _ _ _ _ _ (Oper.mk _ (Op.load _ _) _ _ _ _ :: _) _ _); (refine inV (fun _ => trivial) (by rfl) (by intro c h; cases h) (ex_load1 22 Tryz.isAgg22 rfl rfl ((unhide LN).get 1 rfl) rfl) ?_); simp only [Act.put, n1, n2, n3]) | ((with_reducible show wpListIn _ _ _ _ _ (Oper.mk _ (Op.call _) _ _ _ _ :: _) _ _); (refine inV (fun _ => trivial) (by rfl) (by intro c h; cases h) (ex_lenG 22 41 Tryz.underlying22 rfl rfl) ?_); simp only [Act.put, n1, n2, n3]) | ((with_reducible show wpListIn _ _ _ _ _ (Oper.mk _ (Op.binOp _ _ _ _ _) _ _ _ _ :: _) _ _); (refine inV (fun _ => trivial) (by rfl) (by intro c h; cases h) (ex_addW rfl rfl rfl hwn) ?_); simp only [Act.put, n1, n2, n3]) | ((with_reducible show wpListIn _ _ _ _ _ (Oper.mk _ (Op.binOp _ _ _ _ _) _ _ _ _ :: _) _ _); (refine inV (fun _ => trivial) (by rfl) (by intro c h; cases h) (ex_subW rfl rfl rfl hwl) ?_); simp only [Act.put, n1, n2, n3]) | ((with_reducible show wpListIn _ _ _ _ _ (Oper.mk _ (Op.binOp _ _ _ _ _) _ _ _ _ :: _) _ _); (refine inV (fun _ => trivial) (by rfl) (by intro c h; cases h) (ex_cmpI rfl rfl rfl (.inr (.inr (.inl ⟨rfl, dg⟩)))) ?_); simp only [Act.put, n1, n2, n3]) | ((with_reducible show wpListIn _ _ _ _ _ (Oper.mk _ (Op.load _ _) _ _ _ _ :: _) _ _); (refine inV (fun _ => trivial) (by rfl) (by intro c h; cases h) (ex_load1 24 Tryz.isAgg24 rfl rfl ((unhide LN).get 0 rfl) rfl) ?_); simp only [Act.put, n1, n2, n3]) | ((with_reducible show wpListIn _ _ _ _ _ (Oper.mk _ (Op.load _ _) _ _ _ _ :: _) _ _); (refine inV (fun _ => trivial) (by rfl) (by intro c h; cases h) (ex_load1 3 Tryz.isAgg3 rfl rfl ((unhide LN).get 6 rfl) rfl) ?_); simp only [Act.put, n1, n2, n3]) | ((with_reducible show wpListIn _ _ _ _ _ (Oper.mk _ (Op.load _ _) _ _ _ _ :: _) _ _); (refine inV (fun _ => trivial) (by rfl) (by intro c h; cases h) (ex_load1 3 Tryz.isAgg3 rfl rfl ((unhide LN).get 1 rfl) rfl) ?_); simp only [Act.put, n1, n2, n3]) | ((with_reducible show wpListIn _ _ _ _ _ (Oper.mk _ (Op.load _ _) _ _ _ _ :: _) _ _); (refine inV (fun _ => trivial) (by rfl) (by intro c h; cases h) (ex_load1 3 Tryz.isAgg3 rfl rfl (show Holds _ S.P S3.cs from (by have h := (unhide LN).pj.is.bs.hold; rw [(unhide LN).pj.P] at h; exact h)) rfl) ?_); simp only [Act.put, n1, n2, n3]) | ((with_reducible show wpListIn _ _ _ _ _ (Oper.mk _ (Op.load _ _) _ _ _ _ :: _) _ _); (refine inV (fun _ => trivial) (by rfl) (by intro c h; cases h) (ex_load1 3 Tryz.isAgg3 rfl rfl (show Holds _ S.P (PS.cs { S3 with left := S3.left - 1 }) from (by have h := (unhide LN).pj.is.bs.hold; rw [(unhide LN).pj.P] at h; exact h)) rfl) ?_); simp only [Act.put, n1, n2, n3]) | ((with_reducible show wpListIn _ _ _ _ _ (Oper.mk _ (Op.store _ _ _) _ _ _ _ :: _) _ _); (refine stR (vs := [.int .i64 ((n : Int) + 1)]) 6 3 (fun _ => trivial) (by rfl) (by intro c h; cases h) rfl rfl rfl rfl (by simp [Value.oneCell']) (sz1 3) (unhide LN) rfl (Nat.le_refl _) ?_); intro Z5 L5; replace LN := hide L5; clear L5; simp only [Act.put, n1, n2, n3]) | ((with_reducible show wpListIn _ _ _ _ _ (Oper.mk _ (Op.store _ _ _) _ _ _ _ :: _) _ _); (refine tkR (z := S3.left - 1) (fun _ => trivial) (by rfl) (by intro c h; cases h) rfl (unhide LN).pj.P.symm rfl rfl (unhide LN) ?_); intro Z6 L6; replace LN := hide L6; clear L6; simp only [Act.put, n1, n2, n3]) | ((with_reducible show wpListIn _ _ _ _ _ (Oper.mk _ (Op.store _ _ _) _ _ _ _ :: _) _ _); (refine stR (vs := [.bool true]) 3 4 (fun _ => trivial) (by rfl) (by intro c h; cases h) rfl rfl rfl rfl (by simp [Value.oneCell']) (sz1 4) (unhide LN) rfl (Nat.le_refl _) ?_); intro Z7 L7; replace LN := hide L7; clear L7; simp only [Act.put, n1, n2, n3])))
              exact ⟨(unhide LN).kl, rfl, _, rfl, { S3 with left := S3.left - 1 }, N2, _, (unhide LN).pj, (unhide HT).1, (unhide HT).2.1, (unhide HT).2.2.1, (unhide HT).2.2.2.1⟩
            · have dg : decide ((n : Int) + 1 ≥ nn) = false := decide_eq_false hge
              by_cases hle : S3.left - 1 ≤ 0
              · have dl : decide (S3.left - 1 ≤ 0) = true := decide_eq_true hle
                gi_wp2_with (first | go_skip | ((with_reducible show wpListIn _ _ _ _ _ _ _ _); first | ((with_reducible show wpListIn _ _ _ _ _ (Oper.mk _ (Op.load _ _) _ _ _ _ :: _) _ _); (refine inV (fun _ => trivial) (by rfl) (by intro c h; cases h) (ex_load1 3 Tryz.isAgg3 rfl rfl ((unhide LN).get 6 rfl) rfl) ?_); simp only [Act.put, n1, n2, n3]) | ((with_reducible show wpListIn _ _ _ _ _ (Oper.mk _ (Op.binOp _ _ _ _ _) _ _ _ _ :: _) _ _); (refine inV (fun _ => trivial) (by rfl) (by intro c h; cases h) (ex_mulW rfl rfl rfl hw2) ?_); simp only [Act.put, n1, n2, n3]) | ((with_reducible show wpListIn _ _ _ _ _ (Oper.mk _ (Op.binOp _ _ _ _ _) _ _ _ _ :: _) _ _); (refine inV (fun _ => trivial) (by rfl) (by intro c h; cases h) (ex_addW rfl rfl rfl hwA) ?_); simp only [Act.put, n1, n2, n3]) | ((with_reducible show wpListIn _ _ _ _ _ (Oper.mk _ (Op.binOp _ _ _ _ _) _ _ _ _ :: _) _ _); (refine inV (fun _ => trivial) (by rfl) (by intro c h; cases h) (ex_cmpI rfl rfl rfl (.inl ⟨rfl, dq⟩)) ?_); simp only [Act.put, n1, n2, n3]) | ((with_reducible show wpListIn _ _ _ _ _ (Oper.mk _ (Op.binOp _ _ _ _ _) _ _ _ _ :: _) _ _); (refine inV (fun _ => trivial) (by rfl) (by intro c h; cases h) (ex_cmpI rfl rfl rfl (.inl ⟨rfl, dm⟩)) ?_); simp only [Act.put, n1, n2, n3]) | ((with_reducible show wpListIn _ _ _ _ _ (Oper.mk _ (Op.load _ _) _ _ _ _ :: _) _ _); (refine inV (fun _ => trivial) (by rfl) (by intro c h; cases h) (ex_load1 22 Tryz.isAgg22 rfl rfl ((unhide LN).get 1 rfl) rfl) ?_); simp only [Act.put, n1, n2, n3]) | ((with_reducible show wpListIn _ _ _ _ _ (Oper.mk _ (Op.call _) _ _ _ _ :: _) _ _); (refine inV (fun _ => trivial) (by rfl) (by intro c h; cases h) (ex_lenG 22 41 Tryz.underlying22 rfl rfl) ?_); simp only [Act.put, n1, n2, n3]) | ((with_reducible show wpListIn _ _ _ _ _ (Oper.mk _ (Op.binOp _ _ _ _ _) _ _ _ _ :: _) _ _); (refine inV (fun _ => trivial) (by rfl) (by intro c h; cases h) (ex_addW rfl rfl rfl hwn) ?_); simp only [Act.put, n1, n2, n3]) | ((with_reducible show wpListIn _ _ _ _ _ (Oper.mk _ (Op.binOp _ _ _ _ _) _ _ _ _ :: _) _ _); (refine inV (fun _ => trivial) (by rfl) (by intro c h; cases h) (ex_subW rfl rfl rfl hwl) ?_); simp only [Act.put, n1, n2, n3]) | ((with_reducible show wpListIn _ _ _ _ _ (Oper.mk _ (Op.binOp _ _ _ _ _) _ _ _ _ :: _) _ _); (refine inV (fun _ => trivial) (by rfl) (by intro c h; cases h) (ex_cmpI rfl rfl rfl (.inr (.inr (.inl ⟨rfl, dg⟩)))) ?_); simp only [Act.put, n1, n2, n3]) | ((with_reducible show wpListIn _ _ _ _ _ (Oper.mk _ (Op.binOp _ _ _ _ _) _ _ _ _ :: _) _ _); (refine inV (fun _ => trivial) (by rfl) (by intro c h; cases h) (ex_cmpI rfl rfl rfl (.inr (.inl ⟨rfl, dl⟩))) ?_); simp only [Act.put, n1, n2, n3]) | ((with_reducible show wpListIn _ _ _ _ _ (Oper.mk _ (Op.load _ _) _ _ _ _ :: _) _ _); (refine inV (fun _ => trivial) (by rfl) (by intro c h; cases h) (ex_load1 24 Tryz.isAgg24 rfl rfl ((unhide LN).get 0 rfl) rfl) ?_); simp only [Act.put, n1, n2, n3]) | ((with_reducible show wpListIn _ _ _ _ _ (Oper.mk _ (Op.load _ _) _ _ _ _ :: _) _ _); (refine inV (fun _ => trivial) (by rfl) (by intro c h; cases h) (ex_load1 3 Tryz.isAgg3 rfl rfl ((unhide LN).get 6 rfl) rfl) ?_); simp only [Act.put, n1, n2, n3]) | ((with_reducible show wpListIn _ _ _ _ _ (Oper.mk _ (Op.load _ _) _ _ _ _ :: _) _ _); (refine inV (fun _ => trivial) (by rfl) (by intro c h; cases h) (ex_load1 3 Tryz.isAgg3 rfl rfl ((unhide LN).get 1 rfl) rfl) ?_); simp only [Act.put, n1, n2, n3]) | ((with_reducible show wpListIn _ _ _ _ _ (Oper.mk _ (Op.load _ _) _ _ _ _ :: _) _ _); (refine inV (fun _ => trivial) (by rfl) (by intro c h; cases h) (ex_load1 3 Tryz.isAgg3 rfl rfl (show Holds _ S.P S3.cs from (by have h := (unhide LN).pj.is.bs.hold; rw [(unhide LN).pj.P] at h; exact h)) rfl) ?_); simp only [Act.put, n1, n2, n3]) | ((with_reducible show wpListIn _ _ _ _ _ (Oper.mk _ (Op.load _ _) _ _ _ _ :: _) _ _); (refine inV (fun _ => trivial) (by rfl) (by intro c h; cases h) (ex_load1 3 Tryz.isAgg3 rfl rfl (show Holds _ S.P (PS.cs { S3 with left := S3.left - 1 }) from (by have h := (unhide LN).pj.is.bs.hold; rw [(unhide LN).pj.P] at h; exact h)) rfl) ?_); simp only [Act.put, n1, n2, n3]) | ((with_reducible show wpListIn _ _ _ _ _ (Oper.mk _ (Op.store _ _ _) _ _ _ _ :: _) _ _); (refine stR (vs := [.int .i64 ((n : Int) + 1)]) 6 3 (fun _ => trivial) (by rfl) (by intro c h; cases h) rfl rfl rfl rfl (by simp [Value.oneCell']) (sz1 3) (unhide LN) rfl (Nat.le_refl _) ?_); intro Z5 L5; replace LN := hide L5; clear L5; simp only [Act.put, n1, n2, n3]) | ((with_reducible show wpListIn _ _ _ _ _ (Oper.mk _ (Op.store _ _ _) _ _ _ _ :: _) _ _); (refine tkR (z := S3.left - 1) (fun _ => trivial) (by rfl) (by intro c h; cases h) rfl (unhide LN).pj.P.symm rfl rfl (unhide LN) ?_); intro Z6 L6; replace LN := hide L6; clear L6; simp only [Act.put, n1, n2, n3]) | ((with_reducible show wpListIn _ _ _ _ _ (Oper.mk _ (Op.store _ _ _) _ _ _ _ :: _) _ _); (refine stR (vs := [.bool true]) 3 4 (fun _ => trivial) (by rfl) (by intro c h; cases h) rfl rfl rfl rfl (by simp [Value.oneCell']) (sz1 4) (unhide LN) rfl (Nat.le_refl _) ?_); intro Z7 L7; replace LN := hide L7; clear L7; simp only [Act.put, n1, n2, n3])))
                exact ⟨(unhide LN).kl, rfl, _, rfl, { S3 with left := S3.left - 1 }, N2, _, (unhide LN).pj, (unhide HT).1, (unhide HT).2.1, (unhide HT).2.2.1, (unhide HT).2.2.2.1⟩
              · have dl : decide (S3.left - 1 ≤ 0) = false := decide_eq_false hle
                have HLE := hide hle
                gi_wp2_with (first | go_skip | ((with_reducible show wpListIn _ _ _ _ _ _ _ _); first | ((with_reducible show wpListIn _ _ _ _ _ (Oper.mk _ (Op.load _ _) _ _ _ _ :: _) _ _); (refine inV (fun _ => trivial) (by rfl) (by intro c h; cases h) (ex_load1 3 Tryz.isAgg3 rfl rfl ((unhide LN).get 6 rfl) rfl) ?_); simp only [Act.put, n1, n2, n3]) | ((with_reducible show wpListIn _ _ _ _ _ (Oper.mk _ (Op.binOp _ _ _ _ _) _ _ _ _ :: _) _ _); (refine inV (fun _ => trivial) (by rfl) (by intro c h; cases h) (ex_mulW rfl rfl rfl hw2) ?_); simp only [Act.put, n1, n2, n3]) | ((with_reducible show wpListIn _ _ _ _ _ (Oper.mk _ (Op.binOp _ _ _ _ _) _ _ _ _ :: _) _ _); (refine inV (fun _ => trivial) (by rfl) (by intro c h; cases h) (ex_addW rfl rfl rfl hwA) ?_); simp only [Act.put, n1, n2, n3]) | ((with_reducible show wpListIn _ _ _ _ _ (Oper.mk _ (Op.binOp _ _ _ _ _) _ _ _ _ :: _) _ _); (refine inV (fun _ => trivial) (by rfl) (by intro c h; cases h) (ex_cmpI rfl rfl rfl (.inl ⟨rfl, dq⟩)) ?_); simp only [Act.put, n1, n2, n3]) | ((with_reducible show wpListIn _ _ _ _ _ (Oper.mk _ (Op.binOp _ _ _ _ _) _ _ _ _ :: _) _ _); (refine inV (fun _ => trivial) (by rfl) (by intro c h; cases h) (ex_cmpI rfl rfl rfl (.inl ⟨rfl, dm⟩)) ?_); simp only [Act.put, n1, n2, n3]) | ((with_reducible show wpListIn _ _ _ _ _ (Oper.mk _ (Op.load _ _) _ _ _ _ :: _) _ _); (refine inV (fun _ => trivial) (by rfl) (by intro c h; cases h) (ex_load1 22 Tryz.isAgg22 rfl rfl ((unhide LN).get 1 rfl) rfl) ?_); simp only [Act.put, n1, n2, n3]) | ((with_reducible show wpListIn _ _ _ _ _ (Oper.mk _ (Op.call _) _ _ _ _ :: _) _ _); (refine inV (fun _ => trivial) (by rfl) (by intro c h; cases h) (ex_lenG 22 41 Tryz.underlying22 rfl rfl) ?_); simp only [Act.put, n1, n2, n3]) | ((with_reducible show wpListIn _ _ _ _ _ (Oper.mk _ (Op.binOp _ _ _ _ _) _ _ _ _ :: _) _ _); (refine inV (fun _ => trivial) (by rfl) (by intro c h; cases h) (ex_addW rfl rfl rfl hwn) ?_); simp only [Act.put, n1, n2, n3]) | ((with_reducible show wpListIn _ _ _ _ _ (Oper.mk _ (Op.binOp _ _ _ _ _) _ _ _ _ :: _) _ _); (refine inV (fun _ => trivial) (by rfl) (by intro c h; cases h) (ex_subW rfl rfl rfl hwl) ?_); simp only [Act.put, n1, n2, n3]) | ((with_reducible show wpListIn _ _ _ _ _ (Oper.mk _ (Op.binOp _ _ _ _ _) _ _ _ _ :: _) _ _); (refine inV (fun _ => trivial) (by rfl) (by intro c h; cases h) (ex_cmpI rfl rfl rfl (.inr (.inr (.inl ⟨rfl, dg⟩)))) ?_); simp only [Act.put, n1, n2, n3]) | ((with_reducible show wpListIn _ _ _ _ _ (Oper.mk _ (Op.binOp _ _ _ _ _) _ _ _ _ :: _) _ _); (refine inV (fun _ => trivial) (by rfl) (by intro c h; cases h) (ex_cmpI rfl rfl rfl (.inr (.inl ⟨rfl, dl⟩))) ?_); simp only [Act.put, n1, n2, n3]) | ((with_reducible show wpListIn _ _ _ _ _ (Oper.mk _ (Op.load _ _) _ _ _ _ :: _) _ _); (refine inV (fun _ => trivial) (by rfl) (by intro c h; cases h) (ex_load1 24 Tryz.isAgg24 rfl rfl ((unhide LN).get 0 rfl) rfl) ?_); simp only [Act.put, n1, n2, n3]) | ((with_reducible show wpListIn _ _ _ _ _ (Oper.mk _ (Op.load _ _) _ _ _ _ :: _) _ _); (refine inV (fun _ => trivial) (by rfl) (by intro c h; cases h) (ex_load1 3 Tryz.isAgg3 rfl rfl ((unhide LN).get 6 rfl) rfl) ?_); simp only [Act.put, n1, n2, n3]) | ((with_reducible show wpListIn _ _ _ _ _ (Oper.mk _ (Op.load _ _) _ _ _ _ :: _) _ _); (refine inV (fun _ => trivial) (by rfl) (by intro c h; cases h) (ex_load1 3 Tryz.isAgg3 rfl rfl ((unhide LN).get 1 rfl) rfl) ?_); simp only [Act.put, n1, n2, n3]) | ((with_reducible show wpListIn _ _ _ _ _ (Oper.mk _ (Op.load _ _) _ _ _ _ :: _) _ _); (refine inV (fun _ => trivial) (by rfl) (by intro c h; cases h) (ex_load1 3 Tryz.isAgg3 rfl rfl (show Holds _ S.P S3.cs from (by have h := (unhide LN).pj.is.bs.hold; rw [(unhide LN).pj.P] at h; exact h)) rfl) ?_); simp only [Act.put, n1, n2, n3]) | ((with_reducible show wpListIn _ _ _ _ _ (Oper.mk _ (Op.load _ _) _ _ _ _ :: _) _ _); (refine inV (fun _ => trivial) (by rfl) (by intro c h; cases h) (ex_load1 3 Tryz.isAgg3 rfl rfl (show Holds _ S.P (PS.cs { S3 with left := S3.left - 1 }) from (by have h := (unhide LN).pj.is.bs.hold; rw [(unhide LN).pj.P] at h; exact h)) rfl) ?_); simp only [Act.put, n1, n2, n3]) | ((with_reducible show wpListIn _ _ _ _ _ (Oper.mk _ (Op.store _ _ _) _ _ _ _ :: _) _ _); (refine stR (vs := [.int .i64 ((n : Int) + 1)]) 6 3 (fun _ => trivial) (by rfl) (by intro c h; cases h) rfl rfl rfl rfl (by simp [Value.oneCell']) (sz1 3) (unhide LN) rfl (Nat.le_refl _) ?_); intro Z5 L5; replace LN := hide L5; clear L5; simp only [Act.put, n1, n2, n3]) | ((with_reducible show wpListIn _ _ _ _ _ (Oper.mk _ (Op.store _ _ _) _ _ _ _ :: _) _ _); (refine tkR (z := S3.left - 1) (fun _ => trivial) (by rfl) (by intro c h; cases h) rfl (unhide LN).pj.P.symm rfl rfl (unhide LN) ?_); intro Z6 L6; replace LN := hide L6; clear L6; simp only [Act.put, n1, n2, n3])))
                refine ⟨(unhide LN).kl, ⟨S3.T0, r9.n, some r9.b, (S3.left - 1).toNat + 1⟩, ⟨rfl, rfl, ?_⟩, { S3 with left := S3.left - 1 }, N2, x.n, n + 1, (show PJ _ _ _ _ _ _ ([(B3, [.pointer (some ⟨S.P, 0, none⟩)]), (B4, actCs kd k d nn (.slice A m c)), (B5, [.int .i64 dep]), (B6, [.bool false]), (B7, [.pointer (some ⟨S.R0.t, 0, none⟩)]), (B8, [.int .i64 x.n]), (B9, [.int .i64 (n + 1 : Nat)]), (Bn, [.pointer (some ⟨S.T0.t, 0, none⟩)])] ++ [_]) _ from (unhide LN).pj).left, rfl, (unhide HT).1, ?_, rfl, ?_, (unhide HT).2.2.1, .inr ?_⟩
                · have h1 := (unhide HT).2.2.2.2; have h2 := unhide HLE; have h3 := (unhide HP9).2.1; show (S3.left - 1).toNat + 1 < s9.left; omega
                · have h1 := (unhide HT).2.2.2.2; have h2 := unhide HLE; have h4 := unhide HB; show Pot { S3 with left := S3.left - 1 } N2 ≤ Pot S N; unfold Pot at h1 ⊢; show (N2 : Int) + 128 * max (S3.left - 1) 0 ≤ _; omega
                · have h1 := (unhide HT).2.2.2.2; have h2 := unhide HLE; have h3 := (unhide HP9).2.2.1; show ((n + 1 : Nat) : Int) + max (S3.left - 1) 0 ≤ max S.left 0; omega
                · have h2 := unhide HLE; show 0 < S3.left - 1; omega
          · have dq : decide ((q : Int) < 2 * (n : Int) + 2) = false := decide_eq_false (by omega)
            clear hlt hqj
            by_cases hge : nn ≤ (n : Int) + 1
            · have dg : decide ((n : Int) + 1 ≥ nn) = true := decide_eq_true hge
              have dl : True := trivial
              gi_wp2_with (first | go_skip | ((with_reducible show wpListIn _ _ _ _ _ _ _ _); first | ((with_reducible show wpListIn _ _ _ _ _ (Oper.mk _ (Op.load _ _) _ _ _ _ :: _) _ _); (refine inV (fun _ => trivial) (by rfl) (by intro c h; cases h) (ex_load1 3 Tryz.isAgg3 rfl rfl ((unhide LN).get 6 rfl) rfl) ?_); simp only [Act.put, n1, n2, n3]) | ((with_reducible show wpListIn _ _ _ _ _ (Oper.mk _ (Op.binOp _ _ _ _ _) _ _ _ _ :: _) _ _); (refine inV (fun _ => trivial) (by rfl) (by intro c h; cases h) (ex_mulW rfl rfl rfl hw2) ?_); simp only [Act.put, n1, n2, n3]) | ((with_reducible show wpListIn _ _ _ _ _ (Oper.mk _ (Op.binOp _ _ _ _ _) _ _ _ _ :: _) _ _); (refine inV (fun _ => trivial) (by rfl) (by intro c h; cases h) (ex_addW rfl rfl rfl hwA) ?_); simp only [Act.put, n1, n2, n3]) | ((with_reducible show wpListIn _ _ _ _ _ (Oper.mk _ (Op.binOp _ _ _ _ _) _ _ _ _ :: _) _ _); (refine inV (fun _ => trivial) (by rfl) (by intro c h; cases h) (ex_cmpI rfl rfl rfl (.inl ⟨rfl, dq⟩)) ?_); simp only [Act.put, n1, n2, n3]) | ((with_reducible show wpListIn _ _ _ _ _ (Oper.mk _ (Op.binOp _ _ _ _ _) _ _ _ _ :: _) _ _); (refine inV (fun _ => trivial) (by rfl) (by intro c h; cases h) (ex_addW rfl rfl rfl hwn) ?_); simp only [Act.put, n1, n2, n3]) | ((with_reducible show wpListIn _ _ _ _ _ (Oper.mk _ (Op.binOp _ _ _ _ _) _ _ _ _ :: _) _ _); (refine inV (fun _ => trivial) (by rfl) (by intro c h; cases h) (ex_subW rfl rfl rfl hwl) ?_); simp only [Act.put, n1, n2, n3]) | ((with_reducible show wpListIn _ _ _ _ _ (Oper.mk _ (Op.binOp _ _ _ _ _) _ _ _ _ :: _) _ _); (refine inV (fun _ => trivial) (by rfl) (by intro c h; cases h) (ex_cmpI rfl rfl rfl (.inr (.inr (.inl ⟨rfl, dg⟩)))) ?_); simp only [Act.put, n1, n2, n3]) | ((with_reducible show wpListIn _ _ _ _ _ (Oper.mk _ (Op.load _ _) _ _ _ _ :: _) _ _); (refine inV (fun _ => trivial) (by rfl) (by intro c h; cases h) (ex_load1 24 Tryz.isAgg24 rfl rfl ((unhide LN).get 0 rfl) rfl) ?_); simp only [Act.put, n1, n2, n3]) | ((with_reducible show wpListIn _ _ _ _ _ (Oper.mk _ (Op.load _ _) _ _ _ _ :: _) _ _); (refine inV (fun _ => trivial) (by rfl) (by intro c h; cases h) (ex_load1 3 Tryz.isAgg3 rfl rfl ((unhide LN).get 6 rfl) rfl) ?_); simp only [Act.put, n1, n2, n3]) | ((with_reducible show wpListIn _ _ _ _ _ (Oper.mk _ (Op.load _ _) _ _ _ _ :: _) _ _); (refine inV (fun _ => trivial) (by rfl) (by intro c h; cases h) (ex_load1 3 Tryz.isAgg3 rfl rfl ((unhide LN).get 1 rfl) rfl) ?_); simp only [Act.put, n1, n2, n3]) | ((with_reducible show wpListIn _ _ _ _ _ (Oper.mk _ (Op.load _ _) _ _ _ _ :: _) _ _); (refine inV (fun _ => trivial) (by rfl) (by intro c h; cases h) (ex_load1 3 Tryz.isAgg3 rfl rfl (show Holds _ S.P S3.cs from (by have h := (unhide LN).pj.is.bs.hold; rw [(unhide LN).pj.P] at h; exact h)) rfl) ?_); simp only [Act.put, n1, n2, n3]) | ((with_reducible show wpListIn _ _ _ _ _ (Oper.mk _ (Op.load _ _) _ _ _ _ :: _) _ _); (refine inV (fun _ => trivial) (by rfl) (by intro c h; cases h) (ex_load1 3 Tryz.isAgg3 rfl rfl (show Holds _ S.P (PS.cs { S3 with left := S3.left - 1 }) from (by have h := (unhide LN).pj.is.bs.hold; rw [(unhide LN).pj.P] at h; exact h)) rfl) ?_); simp only [Act.put, n1, n2, n3]) | ((with_reducible show wpListIn _ _ _ _ _ (Oper.mk _ (Op.store _ _ _) _ _ _ _ :: _) _ _); (refine stR (vs := [.int .i64 ((n : Int) + 1)]) 6 3 (fun _ => trivial) (by rfl) (by intro c h; cases h) rfl rfl rfl rfl (by simp [Value.oneCell']) (sz1 3) (unhide LN) rfl (Nat.le_refl _) ?_); intro Z5 L5; replace LN := hide L5; clear L5; simp only [Act.put, n1, n2, n3]) | ((with_reducible show wpListIn _ _ _ _ _ (Oper.mk _ (Op.store _ _ _) _ _ _ _ :: _) _ _); (refine tkR (z := S3.left - 1) (fun _ => trivial) (by rfl) (by intro c h; cases h) rfl (unhide LN).pj.P.symm rfl rfl (unhide LN) ?_); intro Z6 L6; replace LN := hide L6; clear L6; simp only [Act.put, n1, n2, n3]) | ((with_reducible show wpListIn _ _ _ _ _ (Oper.mk _ (Op.store _ _ _) _ _ _ _ :: _) _ _); (refine stR (vs := [.bool true]) 3 4 (fun _ => trivial) (by rfl) (by intro c h; cases h) rfl rfl rfl rfl (by simp [Value.oneCell']) (sz1 4) (unhide LN) rfl (Nat.le_refl _) ?_); intro Z7 L7; replace LN := hide L7; clear L7; simp only [Act.put, n1, n2, n3])))
              exact ⟨(unhide LN).kl, rfl, _, rfl, { S3 with left := S3.left - 1 }, N2, _, (unhide LN).pj, (unhide HT).1, (unhide HT).2.1, (unhide HT).2.2.1, (unhide HT).2.2.2.1⟩
            · have dg : decide ((n : Int) + 1 ≥ nn) = false := decide_eq_false hge
              by_cases hle : S3.left - 1 ≤ 0
              · have dl : decide (S3.left - 1 ≤ 0) = true := decide_eq_true hle
                gi_wp2_with (first | go_skip | ((with_reducible show wpListIn _ _ _ _ _ _ _ _); first | ((with_reducible show wpListIn _ _ _ _ _ (Oper.mk _ (Op.load _ _) _ _ _ _ :: _) _ _); (refine inV (fun _ => trivial) (by rfl) (by intro c h; cases h) (ex_load1 3 Tryz.isAgg3 rfl rfl ((unhide LN).get 6 rfl) rfl) ?_); simp only [Act.put, n1, n2, n3]) | ((with_reducible show wpListIn _ _ _ _ _ (Oper.mk _ (Op.binOp _ _ _ _ _) _ _ _ _ :: _) _ _); (refine inV (fun _ => trivial) (by rfl) (by intro c h; cases h) (ex_mulW rfl rfl rfl hw2) ?_); simp only [Act.put, n1, n2, n3]) | ((with_reducible show wpListIn _ _ _ _ _ (Oper.mk _ (Op.binOp _ _ _ _ _) _ _ _ _ :: _) _ _); (refine inV (fun _ => trivial) (by rfl) (by intro c h; cases h) (ex_addW rfl rfl rfl hwA) ?_); simp only [Act.put, n1, n2, n3]) | ((with_reducible show wpListIn _ _ _ _ _ (Oper.mk _ (Op.binOp _ _ _ _ _) _ _ _ _ :: _) _ _); (refine inV (fun _ => trivial) (by rfl) (by intro c h; cases h) (ex_cmpI rfl rfl rfl (.inl ⟨rfl, dq⟩)) ?_); simp only [Act.put, n1, n2, n3]) | ((with_reducible show wpListIn _ _ _ _ _ (Oper.mk _ (Op.binOp _ _ _ _ _) _ _ _ _ :: _) _ _); (refine inV (fun _ => trivial) (by rfl) (by intro c h; cases h) (ex_addW rfl rfl rfl hwn) ?_); simp only [Act.put, n1, n2, n3]) | ((with_reducible show wpListIn _ _ _ _ _ (Oper.mk _ (Op.binOp _ _ _ _ _) _ _ _ _ :: _) _ _); (refine inV (fun _ => trivial) (by rfl) (by intro c h; cases h) (ex_subW rfl rfl rfl hwl) ?_); simp only [Act.put, n1, n2, n3]) | ((with_reducible show wpListIn _ _ _ _ _ (Oper.mk _ (Op.binOp _ _ _ _ _) _ _ _ _ :: _) _ _); (refine inV (fun _ => trivial) (by rfl) (by intro c h; cases h) (ex_cmpI rfl rfl rfl (.inr (.inr (.inl ⟨rfl, dg⟩)))) ?_); simp only [Act.put, n1, n2, n3]) | ((with_reducible show wpListIn _ _ _ _ _ (Oper.mk _ (Op.binOp _ _ _ _ _) _ _ _ _ :: _) _ _); (refine inV (fun _ => trivial) (by rfl) (by intro c h; cases h) (ex_cmpI rfl rfl rfl (.inr (.inl ⟨rfl, dl⟩))) ?_); simp only [Act.put, n1, n2, n3]) | ((with_reducible show wpListIn _ _ _ _ _ (Oper.mk _ (Op.load _ _) _ _ _ _ :: _) _ _); (refine inV (fun _ => trivial) (by rfl) (by intro c h; cases h) (ex_load1 24 Tryz.isAgg24 rfl rfl ((unhide LN).get 0 rfl) rfl) ?_); simp only [Act.put, n1, n2, n3]) | ((with_reducible show wpListIn _ _ _ _ _ (Oper.mk _ (Op.load _ _) _ _ _ _ :: _) _ _); (refine inV (fun _ => trivial) (by rfl) (by intro c h; cases h) (ex_load1 3 Tryz.isAgg3 rfl rfl ((unhide LN).get 6 rfl) rfl) ?_); simp only [Act.put, n1, n2, n3]) | ((with_reducible show wpListIn _ _ _ _ _ (Oper.mk _ (Op.load _ _) _ _ _ _ :: _) _ _); (refine inV (fun _ => trivial) (by rfl) (by intro c h; cases h) (ex_load1 3 Tryz.isAgg3 rfl rfl ((unhide LN).get 1 rfl) rfl) ?_); simp only [Act.put, n1, n2, n3]) | ((with_reducible show wpListIn _ _ _ _ _ (Oper.mk _ (Op.load _ _) _ _ _ _ :: _) _ _); (refine inV (fun _ => trivial) (by rfl) (by intro c h; cases h) (ex_load1 3 Tryz.isAgg3 rfl rfl (show Holds _ S.P S3.cs from (by have h := (unhide LN).pj.is.bs.hold; rw [(unhide LN).pj.P] at h; exact h)) rfl) ?_); simp only [Act.put, n1, n2, n3]) | ((with_reducible show wpListIn _ _ _ _ _ (Oper.mk _ (Op.load _ _) _ _ _ _ :: _) _ _); (refine inV (fun _ => trivial) (by rfl) (by intro c h; cases h) (ex_load1 3 Tryz.isAgg3 rfl rfl (show Holds _ S.P (PS.cs { S3 with left := S3.left - 1 }) from (by have h := (unhide LN).pj.is.bs.hold; rw [(unhide LN).pj.P] at h; exact h)) rfl) ?_); simp only [Act.put, n1, n2, n3]) | ((with_reducible show wpListIn _ _ _ _ _ (Oper.mk _ (Op.store _ _ _) _ _ _ _ :: _) _ _); (refine stR (vs := [.int .i64 ((n : Int) + 1)]) 6 3 (fun _ => trivial) (by rfl) (by intro c h; cases h) rfl rfl rfl rfl (by simp [Value.oneCell']) (sz1 3) (unhide LN) rfl (Nat.le_refl _) ?_); intro Z5 L5; replace LN := hide L5; clear L5; simp only [Act.put, n1, n2, n3]) | ((with_reducible show wpListIn _ _ _ _ _ (Oper.mk _ (Op.store _ _ _) _ _ _ _ :: _) _ _); (refine tkR (z := S3.left - 1) (fun _ => trivial) (by rfl) (by intro c h; cases h) rfl (unhide LN).pj.P.symm rfl rfl (unhide LN) ?_); intro Z6 L6; replace LN := hide L6; clear L6; simp only [Act.put, n1, n2, n3]) | ((with_reducible show wpListIn _ _ _ _ _ (Oper.mk _ (Op.store _ _ _) _ _ _ _ :: _) _ _); (refine stR (vs := [.bool true]) 3 4 (fun _ => trivial) (by rfl) (by intro c h; cases h) rfl rfl rfl rfl (by simp [Value.oneCell']) (sz1 4) (unhide LN) rfl (Nat.le_refl _) ?_); intro Z7 L7; replace LN := hide L7; clear L7; simp only [Act.put, n1, n2, n3])))
                exact ⟨(unhide LN).kl, rfl, _, rfl, { S3 with left := S3.left - 1 }, N2, _, (unhide LN).pj, (unhide HT).1, (unhide HT).2.1, (unhide HT).2.2.1, (unhide HT).2.2.2.1⟩
              · have dl : decide (S3.left - 1 ≤ 0) = false := decide_eq_false hle
                have HLE := hide hle
                gi_wp2_with (first | go_skip | ((with_reducible show wpListIn _ _ _ _ _ _ _ _); first | ((with_reducible show wpListIn _ _ _ _ _ (Oper.mk _ (Op.load _ _) _ _ _ _ :: _) _ _); (refine inV (fun _ => trivial) (by rfl) (by intro c h; cases h) (ex_load1 3 Tryz.isAgg3 rfl rfl ((unhide LN).get 6 rfl) rfl) ?_); simp only [Act.put, n1, n2, n3]) | ((with_reducible show wpListIn _ _ _ _ _ (Oper.mk _ (Op.binOp _ _ _ _ _) _ _ _ _ :: _) _ _); (refine inV (fun _ => trivial) (by rfl) (by intro c h; cases h) (ex_mulW rfl rfl rfl hw2) ?_); simp only [Act.put, n1, n2, n3]) | ((with_reducible show wpListIn _ _ _ _ _ (Oper.mk _ (Op.binOp _ _ _ _ _) _ _ _ _ :: _) _ _); (refine inV (fun _ => trivial) (by rfl) (by intro c h; cases h) (ex_addW rfl rfl rfl hwA) ?_); simp only [Act.put, n1, n2, n3]) | ((with_reducible show wpListIn _ _ _ _ _ (Oper.mk _ (Op.binOp _ _ _ _ _) _ _ _ _ :: _) _ _); (refine inV (fun _ => trivial) (by rfl) (by intro c h; cases h) (ex_cmpI rfl rfl rfl (.inl ⟨rfl, dq⟩)) ?_); simp only [Act.put, n1, n2, n3]) | ((with_reducible show wpListIn _ _ _ _ _ (Oper.mk _ (Op.binOp _ _ _ _ _) _ _ _ _ :: _) _ _); (refine inV (fun _ => trivial) (by rfl) (by intro c h; cases h) (ex_addW rfl rfl rfl hwn) ?_); simp only [Act.put, n1, n2, n3]) | ((with_reducible show wpListIn _ _ _ _ _ (Oper.mk _ (Op.binOp _ _ _ _ _) _ _ _ _ :: _) _ _); (refine inV (fun _ => trivial) (by rfl) (by intro c h; cases h) (ex_subW rfl rfl rfl hwl) ?_); simp only [Act.put, n1, n2, n3]) | ((with_reducible show wpListIn _ _ _ _ _ (Oper.mk _ (Op.binOp _ _ _ _ _) _ _ _ _ :: _) _ _); (refine inV (fun _ => trivial) (by rfl) (by intro c h; cases h) (ex_cmpI rfl rfl rfl (.inr (.inr (.inl ⟨rfl, dg⟩)))) ?_); simp only [Act.put, n1, n2, n3]) | ((with_reducible show wpListIn _ _ _ _ _ (Oper.mk _ (Op.binOp _ _ _ _ _) _ _ _ _ :: _) _ _); (refine inV (fun _ => trivial) (by rfl) (by intro c h; cases h) (ex_cmpI rfl rfl rfl (.inr (.inl ⟨rfl, dl⟩))) ?_); simp only [Act.put, n1, n2, n3]) | ((with_reducible show wpListIn _ _ _ _ _ (Oper.mk _ (Op.load _ _) _ _ _ _ :: _) _ _); (refine inV (fun _ => trivial) (by rfl) (by intro c h; cases h) (ex_load1 24 Tryz.isAgg24 rfl rfl ((unhide LN).get 0 rfl) rfl) ?_); simp only [Act.put, n1, n2, n3]) | ((with_reducible show wpListIn _ _ _ _ _ (Oper.mk _ (Op.load _ _) _ _ _ _ :: _) _ _); (refine inV (fun _ => trivial) (by rfl) (by intro c h; cases h) (ex_load1 3 Tryz.isAgg3 rfl rfl ((unhide LN).get 6 rfl) rfl) ?_); simp only [Act.put, n1, n2, n3]) | ((with_reducible show wpListIn _ _ _ _ _ (Oper.mk _ (Op.load _ _) _ _ _ _ :: _) _ _); (refine inV (fun _ => trivial) (by rfl) (by intro c h; cases h) (ex_load1 3 Tryz.isAgg3 rfl rfl ((unhide LN).get 1 rfl) rfl) ?_); simp only [Act.put, n1, n2, n3]) | ((with_reducible show wpListIn _ _ _ _ _ (Oper.mk _ (Op.load _ _) _ _ _ _ :: _) _ _); (refine inV (fun _ => trivial) (by rfl) (by intro c h; cases h) (ex_load1 3 Tryz.isAgg3 rfl rfl (show Holds _ S.P S3.cs from (by have h := (unhide LN).pj.is.bs.hold; rw [(unhide LN).pj.P] at h; exact h)) rfl) ?_); simp only [Act.put, n1, n2, n3]) | ((with_reducible show wpListIn _ _ _ _ _ (Oper.mk _ (Op.load _ _) _ _ _ _ :: _) _ _); (refine inV (fun _ => trivial) (by rfl) (by intro c h; cases h) (ex_load1 3 Tryz.isAgg3 rfl rfl (show Holds _ S.P (PS.cs { S3 with left := S3.left - 1 }) from (by have h := (unhide LN).pj.is.bs.hold; rw [(unhide LN).pj.P] at h; exact h)) rfl) ?_); simp only [Act.put, n1, n2, n3]) | ((with_reducible show wpListIn _ _ _ _ _ (Oper.mk _ (Op.store _ _ _) _ _ _ _ :: _) _ _); (refine stR (vs := [.int .i64 ((n : Int) + 1)]) 6 3 (fun _ => trivial) (by rfl) (by intro c h; cases h) rfl rfl rfl rfl (by simp [Value.oneCell']) (sz1 3) (unhide LN) rfl (Nat.le_refl _) ?_); intro Z5 L5; replace LN := hide L5; clear L5; simp only [Act.put, n1, n2, n3]) | ((with_reducible show wpListIn _ _ _ _ _ (Oper.mk _ (Op.store _ _ _) _ _ _ _ :: _) _ _); (refine tkR (z := S3.left - 1) (fun _ => trivial) (by rfl) (by intro c h; cases h) rfl (unhide LN).pj.P.symm rfl rfl (unhide LN) ?_); intro Z6 L6; replace LN := hide L6; clear L6; simp only [Act.put, n1, n2, n3])))
                refine ⟨(unhide LN).kl, ⟨S3.T0, r9.n, some r9.b, (S3.left - 1).toNat + 1⟩, ⟨rfl, rfl, ?_⟩, { S3 with left := S3.left - 1 }, N2, x.n, n + 1, (show PJ _ _ _ _ _ _ ([(B3, [.pointer (some ⟨S.P, 0, none⟩)]), (B4, actCs kd k d nn (.slice A m c)), (B5, [.int .i64 dep]), (B6, [.bool false]), (B7, [.pointer (some ⟨S.R0.t, 0, none⟩)]), (B8, [.int .i64 x.n]), (B9, [.int .i64 (n + 1 : Nat)]), (Bn, [.pointer (some ⟨S.T0.t, 0, none⟩)])] ++ [_]) _ from (unhide LN).pj).left, rfl, (unhide HT).1, ?_, rfl, ?_, (unhide HT).2.2.1, .inr ?_⟩
                · have h1 := (unhide HT).2.2.2.2; have h2 := unhide HLE; have h3 := (unhide HP9).2.1; show (S3.left - 1).toNat + 1 < s9.left; omega
                · have h1 := (unhide HT).2.2.2.2; have h2 := unhide HLE; have h4 := unhide HB; show Pot { S3 with left := S3.left - 1 } N2 ≤ Pot S N; unfold Pot at h1 ⊢; show (N2 : Int) + 128 * max (S3.left - 1) 0 ≤ _; omega
                · have h1 := (unhide HT).2.2.2.2; have h2 := unhide HLE; have h3 := (unhide HP9).2.2.1; show ((n + 1 : Nat) : Int) + max (S3.left - 1) 0 ≤ max S.left 0; omega
                · have h2 := unhide HLE; show 0 < S3.left - 1; omega
