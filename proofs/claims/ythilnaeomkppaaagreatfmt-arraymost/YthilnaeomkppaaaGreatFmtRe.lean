import Derived.Test.YthilnaeomkppaaaGreatFmtRd
set_option linter.all false
namespace Go.Proofs.YthilnaeomkppaaaGreatFmt
set_option maxHeartbeats 1000000
section
open Go Go.Proofs Go.Maps Go.RowKit FM
theorem mm_DefineOwnProperty (w : World) : (method 631 60 (.agg #[]) "DefineOwnProperty").run Tryz.prog w = .ok (124, .agg #[]) w := by kernel_rfl
theorem ta_caller (w : World) : (Instr.typeAssert (.iface 60 (.agg #[])) 85 125 true).run Tryz.prog w = .ok (.tuple #[.nilIface, .bool false]) w := run_typeAssert_lacksB Tryz.underlying125 (by kernel_rfl) (by kernel_rfl) _ _ _
theorem oneD (d : DD) : ∀ u ∈ d.cs, u.oneCell' = true := by simp [DD.cs, VV.cs, Value.oneCell']
theorem oneV (d : VV) : ∀ u ∈ d.cs, u.oneCell' = true := by simp [VV.cs, Value.oneCell']
theorem oneK (d : KK) : ∀ u ∈ d.cs, u.oneCell' = true := by simp [KK.cs, Value.oneCell']
section
variable {ops : Array Oper} {rest : List Oper} {Q : Exit → Act → World → Prop} {w w0 : World} {a : Act} {o : Oper} {E : List Nat} {L : List Ob}
/-- A box of nothing. -/
theorem bx0 {x : Operand} (ty : TypeId) (hw : Region.wanted o (yielded ops a.tmps) = true) (ho : o.op = .box ty x) (hx : a.eval x = .agg #[]) (hL : Sy w0 w E L)
    (h : ∀ X B, Sy w0 X E L → wpList Tryz.prog ops Q rest (a.put o.dst (.pointer (some ⟨B, 0, none⟩))) X) : wpList Tryz.prog ops Q (o :: rest) a w := by
  refine BigFrame.wpList_want hw fun K hK => ?_
  have hP := hK _ _ (h _ w.heap.size (hL.on ((Below.refl _ _).alloc (Nat.le_refl _) (Obj.cells #[] ty))))
  have e2 : (Instr.box ty (.agg #[])).run Tryz.prog w = .ok (.pointer (some ⟨w.heap.size, 0, none⟩)) (w.alloc (Obj.cells #[] ty)) := rfl
  unfold Oper.wp execOp
  simp only [ho, hx]
  simp [e2]
  exact hP
end
section
variable {md : Region.Mode} {ops : Array Oper} {Q : Exit → Act → World → Prop} {S : World → Prop} {w w0 : World} {fuel : Nat} {listed : Array Bool} {a : Act} {o : Oper} {E : List Nat} {L : List Ob}
theorem galS (i : Nat) (dst : Option Tmp) (ty : TypeId) (cs : List Value) {v : Value} {rs : List Nat} (hi : ops[i]? = some o) (hd : o.dst = dst) (hw : Region.wanted o (yielded ops a.tmps) = true) (ho : o.op = .alloc ty) (hz : ∀ w, (zeroValue ty).run Tryz.prog w = .ok v w) (hv : v.cells.toList = cs) (hc : 0 < cs.length) (hL : Sy w0 w E L)
    (hS : ∀ X, Sy w0 X E (L ++ [boxO w.heap.size cs]) → S X) (h : ∀ X B, B = w.heap.size → Sy w0 X E (L ++ [boxO B cs]) → wpAnyH Tryz.prog md ops Q S fuel (listed.setIfInBounds i true) (a.put dst (.pointer (some ⟨B, 0, none⟩))) X) (hs : AllReadyH Tryz.prog md ops Q S fuel listed a w rs) : AllReadyH Tryz.prog md ops Q S fuel listed a w (i :: rs) := by
  have e : v.cells = cs.toArray := by rw [← hv]
  have he : (execOp a.eval o).run Tryz.prog w = .ok (.value (.pointer (some ⟨w.heap.size, 0, none⟩))) (w.alloc (Obj.cells cs.toArray ty)) := by
    unfold execOp
    simp only [ho]
    simp [go_sem, hz]
    show w.alloc (Obj.cells v.cells ty) = _
    rw [e]
  have hb := hL.box cs ty hc
  exact gval i dst hi hd hw he (hS _ hb) (h _ _ rfl hb) hs
theorem gbxS (i : Nat) (dst : Option Tmp) (ty : TypeId) (cs : List Value) {v : Value} {x : Operand} {rs : List Nat} (hi : ops[i]? = some o) (hd : o.dst = dst) (hw : Region.wanted o (yielded ops a.tmps) = true) (ho : o.op = .box ty x) (hx : a.eval x = v) (hv : v.cells.toList = cs) (hc : 0 < cs.length) (hL : Sy w0 w E L)
    (hS : ∀ X, Sy w0 X E (L ++ [boxO w.heap.size cs]) → S X) (h : ∀ X B, B = w.heap.size → Sy w0 X E (L ++ [boxO B cs]) → wpAnyH Tryz.prog md ops Q S fuel (listed.setIfInBounds i true) (a.put dst (.pointer (some ⟨B, 0, none⟩))) X) (hs : AllReadyH Tryz.prog md ops Q S fuel listed a w rs) : AllReadyH Tryz.prog md ops Q S fuel listed a w (i :: rs) := by
  have e : v.cells = cs.toArray := by rw [← hv]
  have e2 : (Instr.box ty v).run Tryz.prog w = .ok (.pointer (some ⟨w.heap.size, 0, none⟩)) (w.alloc (Obj.cells cs.toArray ty)) := by rw [← e]; rfl
  have he : (execOp a.eval o).run Tryz.prog w = .ok (.value (.pointer (some ⟨w.heap.size, 0, none⟩))) (w.alloc (Obj.cells cs.toArray ty)) := by
    unfold execOp
    simp only [ho, hx]
    simp [e2]
  have hb := hL.box cs ty hc
  exact gval i dst hi hd hw he (hS _ hb) (h _ _ rfl hb) hs
theorem gstS {b p : Nat} {cs vs new : List Value} {v : Value} {x y : Operand} {rs : List Nat} (i k : Nat) (ty : TypeId) (hi : ops[i]? = some o) (hd : o.dst = none) (hw : Region.wanted o (yielded ops a.tmps) = true) (ho : o.op = .store ty x y) (hx : a.eval x = .pointer (some ⟨b, p, none⟩)) (hy : a.eval y = v)
    (hv : v.cells.toList = vs) (h1 : ∀ u ∈ vs, u.oneCell' = true) (hsz : (Tryz.prog.info? ty).map (·.size) = some vs.length) (hL : Sy w0 w E L) (hg : L[k]? = some (boxO b cs)) (hp : p + vs.length ≤ cs.length) (hn : cput cs p vs = new)
    (hS : ∀ X, Sy w0 X E (L.set k (boxO b new)) → S X) (h : ∀ X, Sy w0 X E (L.set k (boxO b new)) → wpAnyH Tryz.prog md ops Q S fuel (listed.setIfInBounds i true) (a.put none undef) X) (hs : AllReadyH Tryz.prog md ops Q S fuel listed a w rs) : AllReadyH Tryz.prog md ops Q S fuel listed a w (i :: rs) := by
  have hq := hL.put k hg p vs hp
  rw [hn] at hq
  have he : (execOp a.eval o).run Tryz.prog w = .ok .skip (w.setCells b p vs) := by
    unfold execOp
    simp only [ho, hx, hy, Instr.storeAt, Instr.sureAddr, Sem.run_bind, Sem.run_pure, Result.andThen_ok, run_storeVar_any w b p ty v vs hv ((hL.hold k hg).there p vs.length hp) hsz h1]
  exact gskp i none hi hd hw he (hS _ hq) (h _ hq) hs
end
end
section
open Go Go.Proofs Go.Maps Go.RowKit FM
attribute [local go_sem] mm_DefineOwnProperty ta_caller
theorem res_ctt {fn : Func} {tmps : Array Value} {w : World} {b r T n t t2 : Nat} {cs : List Value} {v v2 : Value} (hT : ∃ d, Tryz.prog.underlying T = some d ∧ d.isRow = true) (hn : (Tryz.prog.info? T).map (·.size) = some n) (hr : fn.results = #[.cell r T, .tmp t, .tmp t2])
    (hx : tmps.getD r undef = .pointer (some ⟨b, 0, none⟩)) (hv : tmps.getD t undef = v) (hv2 : tmps.getD t2 undef = v2) (hc : Holds w b cs) (hcs : cs.length = n) : (results fn tmps).run Tryz.prog w = .ok (.tuple #[.agg cs.toArray, v, v2]) w := by
  obtain ⟨d, hu, hd⟩ := hT
  have h0 := hc.mid 0 n
  rw [List.drop_zero, List.take_of_length_le (by omega)] at h0
  have hl := run_loadVar_mid (P := Tryz.prog) w b 0 T _ d h0 hu hd (by rw [hn, hcs])
  simp only [Array.getD_eq_getD_getElem?] at hx hv hv2
  unfold results
  simp [hr, hx, hl, asAddr, hv, hv2]
  try rfl
theorem res_ct {fn : Func} {tmps : Array Value} {w : World} {b r T n t : Nat} {cs : List Value} {v : Value} (hT : ∃ d, Tryz.prog.underlying T = some d ∧ d.isRow = true) (hn : (Tryz.prog.info? T).map (·.size) = some n) (hr : fn.results = #[.cell r T, .tmp t])
    (hx : tmps.getD r undef = .pointer (some ⟨b, 0, none⟩)) (hv : tmps.getD t undef = v) (hc : Holds w b cs) (hcs : cs.length = n) : (results fn tmps).run Tryz.prog w = .ok (.tuple #[.agg cs.toArray, v]) w := by
  obtain ⟨d, hu, hd⟩ := hT
  have h0 := hc.mid 0 n
  rw [List.drop_zero, List.take_of_length_le (by omega)] at h0
  have hl := run_loadVar_mid (P := Tryz.prog) w b 0 T _ d h0 hu hd (by rw [hn, hcs])
  simp only [Array.getD_eq_getD_getElem?] at hx hv
  unfold results
  simp [hr, hx, hl, asAddr, hv]
  try rfl
theorem dagg (d : DD) : d.agg = .agg d.cs.toArray := rfl
theorem kagg (d : KK) : d.agg = .agg d.cs.toArray := rfl
theorem vagg (d : VV) : d.agg = .agg d.cs.toArray := rfl
set_option maxRecDepth 100000 in
theorem ord_own (h : HP) (j : Nat) (q : OB) (k : KK) (w : World) (H : h.Is w) (hl : h.l.length ≤ 65536) (hj : h.l[j]? = some q) (hk : OkK k) : Calls Tryz.prog 22 #[.agg #[], .pointer (some ⟨h.b, 0, none⟩), .int .i64 ((j : Int) + 1), k.agg] w fun e w' => e = .returned (.tuple #[(getD q.T k).agg, .bool (q.T.find k).isSome, .nilIface]) ∧ Below w.heap.size w w' := by
  have SS := hide (Sy.nil w [])
  rw [kagg]
  go_enter Tryz.func22, Tryz.ntmps22
  go_wp2_with (first | go_skip | ((with_reducible show wpList _ _ _ _ _ _); first | ((refine bx0 58 (by rfl) rfl rfl (unhide SS) ?_); intro X0 B0 S0; replace SS := hide S0; clear S0; simp only [Act.put, n1, n2, n3]) | (refine zB 42 (k.cs) (by rfl) rfl rfl rfl SS ?_; clear SS; intro Xa Ba SS; simp only [Act.put, n1, n2, n3]) | (refine zA 47 (zeroD.cs) (by rfl) rfl SS ?_; clear SS; intro Xb Bb SS; simp only [Act.put, n1, n2, n3])))
  have hS : Sy w _ [] [boxO Ba k.cs, boxO Bb zeroD.cs] := (unhide SS).drew
  clear SS
  have cu : ∀ {X : World} {M : List Ob}, Sy w X [] ([boxO Ba k.cs, boxO Bb zeroD.cs] ++ M) → Sy w X [] [boxO Ba k.cs, boxO Bb zeroD.cs] := fun h => Sy.left h
  refine wp_region_held_drew (P := Tryz.prog) (S := fun X => Sy w X [] _) (by kernel_rfl) (hS) (fun hS0 => ?_)
  refine gp 0 (some 14) (.pointer (some ⟨h.b, 0, none⟩)) rfl rfl (hS) ?_
  simp only [Act.put, n1, n2, n3]
  refine gp 1 (some 15) (.int .i64 ((j : Int) + 1)) rfl rfl (hS) ?_
  simp only [Act.put, n1, n2, n3]
  refine gq 6 (some 20) (.agg k.cs.toArray) rfl rfl (fun X hX => ex_loadN (vs := k.cs) 42 2 rwK szK rfl rfl (hX.hold 0 rfl) rfl rfl) (hS) ?_
  simp only [Act.put, n1, n2, n3]
  refine gr (rs := [2, 11]) (gcW 2 (some 16) rfl rfl (hS) (at_h h j q _ (H.on hS.fr.below) hj hl) ?_ (galS (v := .agg (zeroD.cs).toArray) 11 (some 11) 47 (zeroD.cs) rfl rfl (by kernel_rfl) rfl (fun w => by kernel_rfl) rfl (Nat.succ_pos _) hS (fun _ hZ => cu hZ) ?_ gn))
  · refine gp 3 (some 17) (.pointer (some ⟨q.b, 0, none⟩)) rfl rfl (hS) ?_
    simp only [Act.put, n1, n2, n3]
    refine gp 4 (some 18) (.pointer (some ⟨q.b, 7, none⟩)) rfl rfl (hS) ?_
    simp only [Act.put, n1, n2, n3]
    refine gq 5 (some 19) (.pointer (some ⟨q.T.t, 0, none⟩)) rfl rfl (fun X hX => ex_load1 83 Tryz.isAgg83 rfl rfl ((H.on hX.fr.below).ob hj).1 rfl) (hS) ?_
    simp only [Act.put, n1, n2, n3]
    refine gr (rs := [7, 11]) (gcB 7 (some 21) rfl rfl hS (get19 q.T k _ ((H.on hS.fr.below).ob hj).2.1 hk) id ?_ (galS (v := .agg (zeroD.cs).toArray) 11 (some 11) 47 (zeroD.cs) rfl rfl (by kernel_rfl) rfl (fun w => by kernel_rfl) rfl (Nat.succ_pos _) hS (fun _ hZ => cu hZ) ?_ gn))
    · intro Y2 hq2
      refine gp 8 (some 13) (.tuple #[(getD q.T k).agg, .bool (q.T.find k).isSome]) rfl rfl (hq2) ?_
      simp only [Act.put, n1, n2, n3]
      refine gp 9 (some 22) ((getD q.T k).agg) rfl rfl (hq2) ?_
      simp only [Act.put, n1, n2, n3]
      refine gp 10 (some 23) (.bool (q.T.find k).isSome) rfl rfl (hq2) ?_
      simp only [Act.put, n1, n2, n3]
      refine gr (rs := [11]) (galS (v := .agg (zeroD.cs).toArray) 11 (some 11) 47 (zeroD.cs) rfl rfl (by kernel_rfl) rfl (fun w => by kernel_rfl) rfl (Nat.succ_pos _) hq2 (fun _ hZ => cu hZ) ?_ gn)
      intro Y3 B3 hE3 hq3
      clear hE3
      simp only [Act.put, n1, n2, n3]
      refine gr (rs := [12]) (gstS (vs := (getD q.T k).cs) (new := (getD q.T k).cs) 12 2 47 rfl rfl (by kernel_rfl) rfl rfl rfl rfl (oneD _) szD hq3 rfl (by simp [cput, VV.cs, KK.cs, DD.cs, OB.cs, hcs, zeroD, zeroV]) (by simp [cput, VV.cs, KK.cs, DD.cs, OB.cs, hcs, zeroD, zeroV]) (fun _ hZ => cu hZ) ?_ gn)
      intro Y4 hq4
      refine gp 13 (some 12) (.bool (q.T.find k).isSome) rfl rfl (cu hq4) ?_
      simp only [Act.put, n1, n2, n3]
      refine wpAnyH_done (by kernel_rfl) ?_ _
      try simp only [Act.put, n1, n2, n3]
      have SS := hide hq4
      go_wp2_with (first | go_skip | ((with_reducible show wpList _ _ _ _ _ _); first | (refine zL ((getD q.T k).cs) 47 18 2 rwD szD (by rfl) rfl rfl SS rfl rfl rfl ?_; simp only [Act.put, n1, n2, n3]) | (refine zS ((getD q.T k).cs) 1 47 (by rfl) rfl rfl rfl rfl (oneD _) szD SS rfl ?_; clear SS; intro Xr SS; simp only [Act.put, n1, n2, n3])))
      refine bodyPost_ret (res_ctt rwD szD rfl rfl rfl rfl ((unhide SS).hold 1 rfl) rfl) rfl ?_
      exact ⟨rfl, (unhide SS).fr.below⟩
    · intro Y5 B5 hE5 hq5
      clear hE5
      simp only [Act.put, n1, n2, n3]
      refine gr (rs := [7]) (gcB 7 (some 21) rfl rfl hq5 (get19 q.T k _ ((H.on hq5.fr.below).ob hj).2.1 hk) (fun x => cu x) ?_ gn)
      intro Y6 hq6
      refine gp 8 (some 13) (.tuple #[(getD q.T k).agg, .bool (q.T.find k).isSome]) rfl rfl (cu hq6) ?_
      simp only [Act.put, n1, n2, n3]
      refine gp 9 (some 22) ((getD q.T k).agg) rfl rfl (cu hq6) ?_
      simp only [Act.put, n1, n2, n3]
      refine gp 10 (some 23) (.bool (q.T.find k).isSome) rfl rfl (cu hq6) ?_
      simp only [Act.put, n1, n2, n3]
      refine gr (rs := [12]) (gstS (vs := (getD q.T k).cs) (new := (getD q.T k).cs) 12 2 47 rfl rfl (by kernel_rfl) rfl rfl rfl rfl (oneD _) szD hq6 rfl (by simp [cput, VV.cs, KK.cs, DD.cs, OB.cs, hcs, zeroD, zeroV]) (by simp [cput, VV.cs, KK.cs, DD.cs, OB.cs, hcs, zeroD, zeroV]) (fun _ hZ => cu hZ) ?_ gn)
      intro Y7 hq7
      refine gp 13 (some 12) (.bool (q.T.find k).isSome) rfl rfl (cu hq7) ?_
      simp only [Act.put, n1, n2, n3]
      refine wpAnyH_done (by kernel_rfl) ?_ _
      try simp only [Act.put, n1, n2, n3]
      have SS := hide hq7
      go_wp2_with (first | go_skip | ((with_reducible show wpList _ _ _ _ _ _); first | (refine zL ((getD q.T k).cs) 47 18 2 rwD szD (by rfl) rfl rfl SS rfl rfl rfl ?_; simp only [Act.put, n1, n2, n3]) | (refine zS ((getD q.T k).cs) 1 47 (by rfl) rfl rfl rfl rfl (oneD _) szD SS rfl ?_; clear SS; intro Xr SS; simp only [Act.put, n1, n2, n3])))
      refine bodyPost_ret (res_ctt rwD szD rfl rfl rfl rfl ((unhide SS).hold 1 rfl) rfl) rfl ?_
      exact ⟨rfl, (unhide SS).fr.below⟩
  · intro Y8 B8 hE8 hq8
    clear hE8
    simp only [Act.put, n1, n2, n3]
    refine gr (rs := [2]) (gcW 2 (some 16) rfl rfl (cu hq8) (at_h h j q _ (H.on hq8.fr.below) hj hl) ?_ gn)
    refine gp 3 (some 17) (.pointer (some ⟨q.b, 0, none⟩)) rfl rfl (cu hq8) ?_
    simp only [Act.put, n1, n2, n3]
    refine gp 4 (some 18) (.pointer (some ⟨q.b, 7, none⟩)) rfl rfl (cu hq8) ?_
    simp only [Act.put, n1, n2, n3]
    refine gq 5 (some 19) (.pointer (some ⟨q.T.t, 0, none⟩)) rfl rfl (fun X hX => ex_load1 83 Tryz.isAgg83 rfl rfl ((H.on hX.fr.below).ob hj).1 rfl) (cu hq8) ?_
    simp only [Act.put, n1, n2, n3]
    refine gr (rs := [7]) (gcB 7 (some 21) rfl rfl hq8 (get19 q.T k _ ((H.on hq8.fr.below).ob hj).2.1 hk) (fun x => cu x) ?_ gn)
    intro Y10 hq10
    refine gp 8 (some 13) (.tuple #[(getD q.T k).agg, .bool (q.T.find k).isSome]) rfl rfl (cu hq10) ?_
    simp only [Act.put, n1, n2, n3]
    refine gp 9 (some 22) ((getD q.T k).agg) rfl rfl (cu hq10) ?_
    simp only [Act.put, n1, n2, n3]
    refine gp 10 (some 23) (.bool (q.T.find k).isSome) rfl rfl (cu hq10) ?_
    simp only [Act.put, n1, n2, n3]
    refine gr (rs := [12]) (gstS (vs := (getD q.T k).cs) (new := (getD q.T k).cs) 12 2 47 rfl rfl (by kernel_rfl) rfl rfl rfl rfl (oneD _) szD hq10 rfl (by simp [cput, VV.cs, KK.cs, DD.cs, OB.cs, hcs, zeroD, zeroV]) (by simp [cput, VV.cs, KK.cs, DD.cs, OB.cs, hcs, zeroD, zeroV]) (fun _ hZ => cu hZ) ?_ gn)
    intro Y11 hq11
    refine gp 13 (some 12) (.bool (q.T.find k).isSome) rfl rfl (cu hq11) ?_
    simp only [Act.put, n1, n2, n3]
    refine wpAnyH_done (by kernel_rfl) ?_ _
    try simp only [Act.put, n1, n2, n3]
    have SS := hide hq11
    go_wp2_with (first | go_skip | ((with_reducible show wpList _ _ _ _ _ _); first | (refine zL ((getD q.T k).cs) 47 18 2 rwD szD (by rfl) rfl rfl SS rfl rfl rfl ?_; simp only [Act.put, n1, n2, n3]) | (refine zS ((getD q.T k).cs) 1 47 (by rfl) rfl rfl rfl rfl (oneD _) szD SS rfl ?_; clear SS; intro Xr SS; simp only [Act.put, n1, n2, n3])))
    refine bodyPost_ret (res_ctt rwD szD rfl rfl rfl rfl ((unhide SS).hold 1 rfl) rfl) rfl ?_
    exact ⟨rfl, (unhide SS).fr.below⟩
theorem inn_out (h : HP) : h.inn.out = h.less := by
  unfold HP.inn HP.out HP.less
  simp
def ePair (c : Int) : Value := .iface 24 (.int .i64 c)
theorem bodyPostD_ret {P : Program} {fn : Func} {R : Ending → World → Prop} {a : Act} {w : World} {v : Value} (hr : (results fn a.tmps).run P w = .ok v w) (hd : a.defers = []) (h : R (.returned v) w) : bodyPostD P fn R .ret a w := by
  show Leaves P fn a.tmps R a.defers .returning w
  rw [hd]
  exact ⟨v, hr, h⟩
theorem ex_zeroD {o : Oper} {a : Act} {w : World} (ho : o.op = .build 47 #[]) : (execOp a.eval o).run Tryz.prog w = .ok (.value (.agg zeroD.cs.toArray)) w := by
  have e : (Instr.build 47 #[]).run Tryz.prog w = .ok (.agg zeroD.cs.toArray) w := by kernel_rfl
  unfold execOp
  simp only [ho]
  simp [e]
theorem ex_zeroV {o : Oper} {a : Act} {w : World} (ho : o.op = .build 34 #[]) : (execOp a.eval o).run Tryz.prog w = .ok (.value (.agg zeroV.cs.toArray)) w := by
  have e : (Instr.build 34 #[]).run Tryz.prog w = .ok (.agg zeroV.cs.toArray) w := by kernel_rfl
  unfold execOp
  simp only [ho]
  simp [e]
set_option maxRecDepth 100000 in
theorem enDefineOwnProperty_0 (h : HP) (j : Nat) (k : KK) (d : DD) (w : World) (H : h.Is w) (hf : h.fuel = 0) : Calls Tryz.prog 30 #[.pointer (some ⟨h.b, 0, none⟩), .int .i64 ((j : Int) + 1), k.agg, d.agg] w fun e w' => e = .returned (.tuple #[.bool false, ePair 1]) ∧ h.To h w w' := by
  have SS := hide H.start
  rw [dagg, kagg]
  go_enter_defers Tryz.func30, Tryz.ntmps30
  go_wp2_with (first | go_skip | ((with_reducible show wpList _ _ _ _ _ _); first | (refine zB 42 (k.cs) (by rfl) rfl rfl rfl SS ?_; clear SS; intro Xp0 Bp0 SS; simp only [Act.put, n1, n2, n3]) | (refine zB 47 (d.cs) (by rfl) rfl rfl rfl SS ?_; clear SS; intro Xp1 Bp1 SS; simp only [Act.put, n1, n2, n3])))
  refine (enter_0 h _ _ ((unhide SS).hp 0 rfl) hf).mono ?_
  rintro _ _ ⟨rfl, rfl⟩
  go_wp2
  refine bodyPostD_ret (results_tmp2 rfl _ _ _) rfl ?_
  exact ⟨rfl, HP.To.end H (unhide SS) rfl⟩
set_option maxRecDepth 100000 in
theorem enDefineOwnProperty_d (h : HP) (j : Nat) (k : KK) (d : DD) (w : World) (H : h.Is w) (K : h.Ok) (hf : h.fuel ≠ 0) (hd : h.ent = h.depth) : Calls Tryz.prog 30 #[.pointer (some ⟨h.b, 0, none⟩), .int .i64 ((j : Int) + 1), k.agg, d.agg] w fun e w' => e = .returned (.tuple #[.bool false, ePair 2]) ∧ h.To h.less w w' := by
  have SS := hide H.start
  rw [dagg, kagg]
  go_enter_defers Tryz.func30, Tryz.ntmps30
  go_wp2_with (first | go_skip | ((with_reducible show wpList _ _ _ _ _ _); first | (refine zB 42 (k.cs) (by rfl) rfl rfl rfl SS ?_; clear SS; intro Xp0 Bp0 SS; simp only [Act.put, n1, n2, n3]) | (refine zB 47 (d.cs) (by rfl) rfl rfl rfl SS ?_; clear SS; intro Xp1 Bp1 SS; simp only [Act.put, n1, n2, n3])))
  refine (enter_d h _ _ ((unhide SS).hp 0 rfl) K hf hd).mono ?_
  rintro _ Y1 ⟨rfl, T1⟩
  replace SS := hide ((unhide SS).heap 0 rfl T1)
  clear T1
  go_wp2
  refine bodyPostD_ret (results_tmp2 rfl _ _ _) rfl ?_
  exact ⟨rfl, HP.To.end H (unhide SS) rfl⟩
set_option maxRecDepth 100000 in
theorem enDefineOwnProperty_n (h : HP) (j : Nat) (q : OB) (k : KK) (d : DD) (P : HP → Bool → Value → Prop) (w : World) (H : h.Is w) (K : h.Ok) (hj : h.l[j]? = some q) (hf : h.fuel ≠ 0) (hd : h.ent ≠ h.depth) (hC : ∀ X, h.To h.inn w X → Calls Tryz.prog 124 #[.agg #[], .pointer (some ⟨h.b, 0, none⟩), .int .i64 ((j : Int) + 1), k.agg, d.agg] X fun e w' => ∃ (h1 : HP) (y : Bool) (er : Value), e = .returned (.tuple #[.bool y, er]) ∧ P h1 y er ∧ h1.ent = h.ent + 1 ∧ h.inn.To h1 X w') : Calls Tryz.prog 30 #[.pointer (some ⟨h.b, 0, none⟩), .int .i64 ((j : Int) + 1), k.agg, d.agg] w fun e w' => ∃ (h1 : HP) (y : Bool) (er : Value), e = .returned (.tuple #[.bool y, er]) ∧ P h1 y er ∧ h.To h1.out w w' := by
  have SS := hide H.start
  have HC := hide hC
  have hE0 : 0 ≤ h.ent + 1 ∧ h.ent + 1 ≤ 100000001 := by have := K.e0; have := K.e1; have := K.d1; omega
  clear hC
  rw [dagg, kagg] at HC ⊢
  go_enter_defers Tryz.func30, Tryz.ntmps30
  go_wp2_with (first | go_skip | ((with_reducible show wpList _ _ _ _ _ _); first | (refine zB 42 (k.cs) (by rfl) rfl rfl rfl SS ?_; clear SS; intro Xp0 Bp0 SS; simp only [Act.put, n1, n2, n3]) | (refine zB 47 (d.cs) (by rfl) rfl rfl rfl SS ?_; clear SS; intro Xp1 Bp1 SS; simp only [Act.put, n1, n2, n3])))
  refine (enter_n h j q _ ((unhide SS).hp 0 rfl) K hj hf hd).mono ?_
  rintro _ Y1 ⟨rfl, T1⟩
  replace SS := hide ((unhide SS).heap 0 rfl T1)
  clear T1
  unfold ordM
  go_wp2_with (first | go_skip | ((with_reducible show wpList _ _ _ _ _ _); first | (refine zL (k.cs) 42 2 1 rwK szK (by rfl) rfl rfl SS rfl rfl rfl ?_; simp only [Act.put, n1, n2, n3]) | (refine zL (d.cs) 47 18 2 rwD szD (by rfl) rfl rfl SS rfl rfl rfl ?_; simp only [Act.put, n1, n2, n3])))
  refine (unhide HC _ (HP.To.end H (unhide SS) rfl)).mono ?_
  rintro _ Y2 ⟨h1, y, er, rfl, hP, hen, T2⟩
  replace SS := hide ((unhide SS).heap 0 rfl T2)
  have hb1 : h1.b = h.b := T2.hb
  clear T2
  go_wp2
  refine leaves_cons (f := 48) (args := #[.pointer (some ⟨h.b, 0, none⟩)]) (by simp) (by simp [go_sem]) ?_
  have HL := leave_d h1 .returning _ ((unhide SS).hp 0 rfl) (by rw [hen]; exact hE0)
  rw [hb1] at HL
  refine HL.mono ?_
  rintro e u2 w2 ⟨rfl, rfl, T3⟩
  replace SS := hide ((unhide SS).heap 0 rfl T3)
  exact ⟨_, results_tmp2 rfl _ _ _, h1, y, er, rfl, hP, HP.To.end H (unhide SS) hb1⟩
end
section
open Go Go.Proofs Go.Maps Go.RowKit FM
/-- What a table tells: its properties in order. -/
def pr (T : TT) : List (KK × DD) := T.live.map RR.pr
def hasP (l : List (KK × DD)) (k : KK) : Bool := l.any (fun e => decide (e.1 = k))
def lkP (l : List (KK × DD)) (k : KK) : Option DD := (l.find? (fun e => decide (e.1 = k))).map (·.2)
def putP (l : List (KK × DD)) (k : KK) (d : DD) : List (KK × DD) := if hasP l k then l.map (fun e => if e.1 = k then (e.1, d) else e) else l ++ [(k, d)]
def delP (l : List (KK × DD)) (k : KK) : List (KK × DD) := l.filter (fun e => decide (e.1 ≠ k))
theorem pr_has (T : TT) (k : KK) : hasP (pr T) k = (T.find k).isSome := by
  unfold hasP pr TT.find
  rw [List.isSome_find?, List.any_map]
  rfl
theorem pr_lk (T : TT) (k : KK) : lkP (pr T) k = (T.find k).map (·.d) := by
  unfold lkP pr TT.find
  rw [List.find?_map, Option.map_map]
  rfl
theorem pr_get (T : TT) (k : KK) : getD T k = (lkP (pr T) k).getD zeroD := by
  rw [pr_lk]
  rfl
theorem lk_has (l : List (KK × DD)) (k : KK) : (lkP l k).isSome = hasP l k := by
  unfold lkP hasP
  rw [Option.isSome_map, List.isSome_find?]
theorem pr_del {T T' : TT} {k : KK} (hl : T'.live = T.live.filter (fun q => decide (q.k ≠ k))) : pr T' = delP (pr T) k := by
  unfold pr delP
  rw [hl, List.filter_map]
  rfl
/-- What Put makes of a table. -/
def PutT (T : TT) (k : KK) (d : DD) (T' : TT) : Prop := (∃ r, T.find k = some r ∧ T' = T.upd r.b d) ∨ (T.find k = none ∧ goodK k = true ∧ ∃ rv R, T' = T.added rv R k d) ∨ (T.find k = none ∧ goodK k = false ∧ T' = T)
theorem PutT.last {T T' : TT} {k : KK} {d : DD} (h : PutT T k d T') : T'.last ≤ T.last + 1 := by
  rcases h with ⟨r, h1, rfl⟩ | ⟨h1, h2, rv, B, rfl⟩ | ⟨h1, h2, rfl⟩
  · exact Nat.le_succ _
  · exact Nat.le_refl _
  · exact Nat.le_succ _
theorem pr_put {T T' : TT} {W : World} {k : KK} {d : DD} (hT : T.Is W) (hg : goodK k = true) (h : PutT T k d T') : pr T' = putP (pr T) k d := by
  unfold putP
  rw [pr_has]
  rcases h with ⟨r, h1, rfl⟩ | ⟨h1, h2, rv, R, rfl⟩ | ⟨h1, h2, rfl⟩
  · rw [h1, if_pos (show (some r).isSome = true from rfl)]
    have hrl : r ∈ T.live := List.mem_of_find?_eq_some h1
    have hrk : r.k = k := (TT.find_mem h1).2.2
    unfold pr
    rw [TT.upd_live, List.map_map, List.map_map]
    apply List.map_congr_left
    intro q hq
    have e := block_key hT hrl hq
    show RR.pr (updR r.b d q) = if (RR.pr q).1 = k then ((RR.pr q).1, d) else RR.pr q
    unfold updR
    by_cases hb : q.b = r.b
    · rw [if_pos hb, if_pos (show (RR.pr q).1 = k from (e.1 hb).trans hrk)]
      rfl
    · rw [if_neg hb, if_neg (show ¬ (RR.pr q).1 = k from fun h => hb (e.2 (Eq.trans h hrk.symm)))]
  · rw [h1, if_neg (show ¬ ((none : Option RR).isSome = true) by simp)]
    unfold pr
    rw [TT.added_live, List.map_append]
    rfl
  · rw [hg] at h2
    cases h2
/-- An object without its memory. -/
structure PO where
  c : Int
  p : VV
  x : Bool
  ps : List (KK × DD)
def OB.po (o : OB) : PO := ⟨o.c, o.p, o.x, pr o.T⟩
def HP.abs (h : HP) : List PO := h.l.map OB.po
theorem abs_at {h : HP} {j : Nat} {q : OB} (hj : h.l[j]? = some q) : h.abs[j]? = some q.po := by
  unfold HP.abs
  rw [List.getElem?_map, hj]
  rfl
theorem abs_set (h : HP) (j : Nat) (q : OB) : ({ h with l := h.l.set j q } : HP).abs = h.abs.set j q.po := by
  unfold HP.abs
  rw [List.map_set]
/-- The tables of the library that are read. -/
def Tabs (w : World) : Prop := Lib.Utf8Tabs 4 5 w ∧ TabP w
theorem Tabs.on {w X : World} (h : Tabs w) (k : Below w.heap.size w X) : Tabs X := ⟨tabs_below h.1 k, h.2.on k⟩
theorem Tabs.fr {w X : World} {E : List Nat} (h : Tabs w) (hf : Fr w X E) (hE : ∀ b ∈ E, 6 ≤ b) : Tabs X := by
  refine ⟨tabs_fr h.1 hf (fun b hb => by have := hE b hb; omega), ?_⟩
  have h2 := h.2
  unfold TabP Lib.TabIs World.var? at *
  have hg : Tryz.prog.globalNamed "internal/strconv.uint64pow10" = some 1 := by kernel_rfl
  simp only [hg, Option.bind_some] at h2 ⊢
  have hlt : 1 < w.heap.size := by
    rcases Nat.lt_or_ge 1 w.heap.size with h' | h'
    · exact h'
    · rw [Array.getElem?_eq_none h'] at h2; simp at h2
  rw [hf.block 1 hlt (fun hm => by have := hE 1 hm; omega)]
  exact h2
theorem HP.To.tabs {h h' : HP} {w X : World} (A : h.To h' w X) (H : h.Is w) (hT : Tabs w) : Tabs X := hT.fr A.fr H.low
theorem abs_len (h : HP) : h.abs.length = h.l.length := List.length_map _
end
section
open Go Go.Proofs Go.Maps Go.RowKit FM
attribute [local go_sem] mm_DefineOwnProperty ta_caller
def HP.tab (h : HP) (j : Nat) (q : OB) (T' : TT) : HP := { h with l := h.l.set j { q with T := T' } }
theorem ex_eqTy {o : Oper} {a : Act} {w : World} {x y : Operand} {n m : Int} (ho : o.op = .binOp .eql 45 x y 45) (hx : a.eval x = .int .i64 n) (hc : a.eval y = .int .i64 m) (h : n = m) : (execOp a.eval o).run Tryz.prog w = .ok (.value (.bool true)) w := by
  unfold execOp
  simp only [ho, hx, hc]
  simp [go_sem, eqGuard, h]
theorem ex_eqTn {o : Oper} {a : Act} {w : World} {x y : Operand} {n m : Int} (ho : o.op = .binOp .eql 45 x y 45) (hx : a.eval x = .int .i64 n) (hc : a.eval y = .int .i64 m) (h : n ≠ m) : (execOp a.eval o).run Tryz.prog w = .ok (.value (.bool false)) w := by
  unfold execOp
  simp only [ho, hx, hc]
  simp [go_sem, eqGuard, h]
theorem ex_neN {o : Oper} {a : Act} {w : World} {x y : Operand} {n m : Int} (ho : o.op = .binOp .neq 3 x y 3) (hx : a.eval x = .int .i64 n) (hc : a.eval y = .int .i64 m) (h : n ≠ m) : (execOp a.eval o).run Tryz.prog w = .ok (.value (.bool true)) w := by
  unfold execOp
  simp only [ho, hx, hc]
  simp [go_sem, eqGuard, h]
theorem ex_neY {o : Oper} {a : Act} {w : World} {x y : Operand} {n m : Int} (ho : o.op = .binOp .neq 3 x y 3) (hx : a.eval x = .int .i64 n) (hc : a.eval y = .int .i64 m) (h : n = m) : (execOp a.eval o).run Tryz.prog w = .ok (.value (.bool false)) w := by
  unfold execOp
  simp only [ho, hx, hc]
  simp [go_sem, eqGuard, h]
