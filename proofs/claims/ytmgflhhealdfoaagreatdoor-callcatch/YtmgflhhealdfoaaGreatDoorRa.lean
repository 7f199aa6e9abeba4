import Derived.Test.YtmgflhhealdfoaaGreatDoorQz
set_option linter.all false
namespace Go.Proofs.YtmgflhhealdfoaaGreatDoor
set_option maxHeartbeats 1000000
section
open Go Go.Proofs Go.Maps Go.RowKit FM
theorem len_h (h : HP) (w : World) (H : h.Is w) : Calls Tryz.prog 18 #[.pointer (some ⟨h.b, 0, none⟩)] w fun e w' => e = .returned (.int .i64 (h.l.length : Nat)) ∧ w' = w := by
  obtain ⟨A, c, hgv⟩ := H.form
  have HB : Hid (Holds w h.b [.slice A h.l.length c, .int .i64 h.cap, .int .i64 h.fuel, .int .i64 h.depth, .int .i64 h.ent]) := hide (by have := H.blk; unfold hcs at this; rw [hgv] at this; exact this)
  clear hgv H
  go_enter Tryz.func18, Tryz.ntmps18
  go_wp2_with (first | go_skip | ((with_reducible show wpList _ _ _ _ _ _); first | (refine rd (by rfl) (ex_load1 67 Tryz.isAgg67 rfl rfl (unhide HB) rfl) ?_; simp only [Act.put, n1, n2, n3]) | (refine rd (by rfl) (ex_lenG 67 87 Tryz.underlying67 rfl rfl) ?_; simp only [Act.put, n1, n2, n3])))
  go_ret
  exact ⟨rfl, rfl⟩
theorem fuel_h (h : HP) (w : World) (H : h.Is w) : Calls Tryz.prog 19 #[.pointer (some ⟨h.b, 0, none⟩)] w fun e w' => e = .returned (.int .i64 h.fuel) ∧ w' = w := by
  have HB := hide H.blk
  clear H
  go_enter Tryz.func19, Tryz.ntmps19
  go_wp2_with (first | go_skip | ((with_reducible show wpList _ _ _ _ _ _); first | (refine rd (by rfl) (ex_load1 3 Tryz.isAgg3 rfl rfl (unhide HB) rfl) ?_; simp only [Act.put, n1, n2, n3])))
  go_ret
  exact ⟨rfl, rfl⟩
def hasH (o : Int) (n : Nat) : Bool := decide (1 ≤ o) && decide (o ≤ (n : Int))
theorem has_h (h : HP) (o : Int) (w : World) (H : h.Is w) : Calls Tryz.prog 62 #[.pointer (some ⟨h.b, 0, none⟩), .int .i64 o] w fun e w' => e = .returned (.bool (hasH o h.l.length)) ∧ w' = w := by
  have HL := hide (len_h h w H)
  clear H
  unfold hasH
  by_cases h1 : 1 ≤ o
  · have e : (decide (1 ≤ o) && decide (o ≤ (h.l.length : Int))) = decide (o ≤ (h.l.length : Int)) := by simp [h1]
    rw [e]
    clear e
    go_enter Tryz.func62, Tryz.ntmps62
    go_wp2_with fail
    refine (unhide HL).mono ?_
    rintro _ _ ⟨rfl, rfl⟩
    go_wp2
    go_ret
    exact ⟨rfl, rfl⟩
  · have e : (decide (1 ≤ o) && decide (o ≤ (h.l.length : Int))) = false := by simp [h1]
    rw [e]
    clear e
    go_enter Tryz.func62, Tryz.ntmps62
    go_wp2
    go_ret
    exact ⟨rfl, rfl⟩
def thE (o : Int) (n : Nat) : Int := if hasH o n then 0 else 4
theorem there_h (h : HP) (o : Int) (w : World) (H : h.Is w) : Calls Tryz.prog 32 #[.pointer (some ⟨h.b, 0, none⟩), .int .i64 o] w fun e w' => e = .returned (.int .i64 (thE o h.l.length)) ∧ w' = w := by
  have HL := hide (has_h h o w H)
  clear H
  unfold thE
  generalize hasH o h.l.length = z at *
  cases z
  · go_enter Tryz.func32, Tryz.ntmps32
    go_wp2_with fail
    refine (unhide HL).mono ?_
    rintro _ _ ⟨rfl, rfl⟩
    go_wp2
    go_ret
    exact ⟨rfl, rfl⟩
  · go_enter Tryz.func32, Tryz.ntmps32
    go_wp2_with fail
    refine (unhide HL).mono ?_
    rintro _ _ ⟨rfl, rfl⟩
    go_wp2
    go_ret
    exact ⟨rfl, rfl⟩
theorem has_some {h : HP} {o : Int} (ho : hasH o h.l.length = true) : ∃ (j : Nat) (q : OB), o = (j : Int) + 1 ∧ h.l[j]? = some q := by
  unfold hasH at ho
  simp at ho
  refine ⟨(o - 1).toNat, h.l[(o - 1).toNat]'(by omega), by omega, List.getElem?_eq_getElem _⟩
theorem some_has {h : HP} {j : Nat} {q : OB} (hj : h.l[j]? = some q) : hasH ((j : Int) + 1) h.l.length = true := by
  have := (List.getElem?_eq_some_iff.1 hj).1
  unfold hasH
  simp
  omega
theorem ex_index1 {o : Oper} {a : Act} {w : World} {x ix : Operand} {g n cap : Nat} (t : TypeId) (j : Nat) (hk : Tryz.prog.underlying t = some (.slice (Tryz.prog.elem t))) (he : ∀ w, (sizeOf (Tryz.prog.elem t)).run Tryz.prog w = .ok 1 w) (ho : o.op = .indexAddr t x ix) (hx : a.eval x = .slice (some ⟨g, 0, none⟩) n cap) (hix : a.eval ix = .int .i64 (j : Nat)) (hj : j < n) : (execOp a.eval o).run Tryz.prog w = .ok (.value (.pointer (some ⟨g, j, none⟩))) w := by
  have h1 : (Instr.indexAt t (.slice (some ⟨g, 0, none⟩) n cap) (.int .i64 (j : Nat))).run Tryz.prog w = .ok (.pointer (some ⟨g, j, none⟩)) w := by
    rw [run_indexAt_slice (h := hk), if_pos ⟨by omega, by omega⟩, he]
    have e2 : (Addr.add ⟨g, 0, none⟩ ((j : Int).toNat * 1)) = ⟨g, j, none⟩ := by
      rw [Addr.add_mid]
      simp
    show Result.ok (Value.pointer (some (Addr.add ⟨g, 0, none⟩ ((j : Int).toNat * 1)))) w = _
    rw [e2]
  unfold execOp
  simp only [ho, hx, hix]
  simp [h1]
theorem ex_loadK {o : Oper} {a : Act} {w : World} {x : Operand} {b p : Nat} {v : Value} (t : TypeId) (ht : ∀ w, (isAgg t).run Tryz.prog w = .ok false w) (ho : o.op = .load t x) (hx : a.eval x = .pointer (some ⟨b, p, none⟩)) (hv : w.cell? ⟨b, p, none⟩ = some v) : (execOp a.eval o).run Tryz.prog w = .ok (.value v) w := by
  unfold execOp
  simp only [ho, hx]
  simp [go_sem, ht, hv]
theorem at_h (h : HP) (j : Nat) (q : OB) (w : World) (H : h.Is w) (hj : h.l[j]? = some q) (hn : h.l.length ≤ 65536) : Calls Tryz.prog 37 #[.pointer (some ⟨h.b, 0, none⟩), .int .i64 ((j : Int) + 1)] w fun e w' => e = .returned (.pointer (some ⟨q.b, 0, none⟩)) ∧ w' = w := by
  obtain ⟨g, c, hgv, hcell⟩ := H.ptr hj
  have hlt := (List.getElem?_eq_some_iff.1 hj).1
  have HB : Hid (Holds w h.b [.slice (some ⟨g, 0, none⟩) h.l.length c, .int .i64 h.cap, .int .i64 h.fuel, .int .i64 h.depth, .int .i64 h.ent]) := hide (by have := H.blk; unfold hcs at this; rw [hgv] at this; exact this)
  have HC : Hid (w.cell? ⟨g, j, none⟩ = some (.pointer (some ⟨q.b, 0, none⟩))) := hide hcell
  have z1 : IntKind.i64.wrap ((j : Int) + 1 - 1) = (j : Int) := by rw [IntKind.wrap_i64]; omega
  clear hgv H hcell hj
  go_enter Tryz.func37, Tryz.ntmps37
  go_wp2_with (first | go_skip | ((with_reducible show wpList _ _ _ _ _ _); first | (refine rd (by rfl) (ex_load1 67 Tryz.isAgg67 rfl rfl (unhide HB) rfl) ?_; simp only [Act.put, n1, n2, n3]) | (refine rd (by rfl) (ex_index1 67 j unOs idOs rfl rfl rfl hlt) ?_; simp only [Act.put, n1, n2, n3]) | (refine rd (by rfl) (ex_loadK 87 Tryz.isAgg87 rfl rfl (unhide HC)) ?_; simp only [Act.put, n1, n2, n3])))
  go_ret
  exact ⟨rfl, rfl⟩
/-- What numbers a heap has. -/
structure HP.Ok (h : HP) : Prop where
  len : h.l.length ≤ 65536
  f0 : 0 ≤ h.fuel
  f1 : h.fuel ≤ 9223372036854775807
  e0 : 0 ≤ h.ent
  e1 : h.ent ≤ h.depth
  d1 : h.depth ≤ 100000000
def HP.less (h : HP) : HP := { h with fuel := h.fuel - 1 }
def HP.inn (h : HP) : HP := { h with fuel := h.fuel - 1, ent := h.ent + 1 }
def HP.out (h : HP) : HP := { h with ent := h.ent - 1 }
theorem ex_subF {o : Oper} {a : Act} {w : World} {x y : Operand} (h : HP) (ho : o.op = .binOp .sub 3 x y 3) (hx : a.eval x = .int .i64 h.fuel) (hc : a.eval y = .int .i64 1) (hF : 0 ≤ h.fuel ∧ h.fuel ≤ 9223372036854775807) : (execOp a.eval o).run Tryz.prog w = .ok (.value (.int .i64 (h.fuel - 1))) w := by
  have z : IntKind.i64.wrap (h.fuel - 1) = h.fuel - 1 := by rw [IntKind.wrap_i64]; omega
  unfold execOp
  simp only [ho, hx, hc]
  simp [go_sem, z]
theorem ex_addE {o : Oper} {a : Act} {w : World} {x y : Operand} (h : HP) (ho : o.op = .binOp .add 3 x y 3) (hx : a.eval x = .int .i64 h.ent) (hc : a.eval y = .int .i64 1) (hF : 0 ≤ h.ent ∧ h.ent ≤ 100000000) : (execOp a.eval o).run Tryz.prog w = .ok (.value (.int .i64 (h.ent + 1))) w := by
  have z : IntKind.i64.wrap (h.ent + 1) = h.ent + 1 := by rw [IntKind.wrap_i64]; omega
  unfold execOp
  simp only [ho, hx, hc]
  simp [go_sem, z]
theorem ex_subE {o : Oper} {a : Act} {w : World} {x y : Operand} (h : HP) (ho : o.op = .binOp .sub 3 x y 3) (hx : a.eval x = .int .i64 h.ent) (hc : a.eval y = .int .i64 1) (hF : 0 ≤ h.ent ∧ h.ent ≤ 100000001) : (execOp a.eval o).run Tryz.prog w = .ok (.value (.int .i64 (h.ent - 1))) w := by
  have z : IntKind.i64.wrap (h.ent - 1) = h.ent - 1 := by rw [IntKind.wrap_i64]; omega
  unfold execOp
  simp only [ho, hx, hc]
  simp [go_sem, z]
set_option maxRecDepth 100000 in
theorem enter_n (h : HP) (j : Nat) (q : OB) (m : Nat) (hm : mt q.m = m) (w : World) (H : h.Is w) (K : h.Ok) (hj : h.l[j]? = some q) (hf : h.fuel ≠ 0) (hd : h.ent ≠ h.depth) : Calls Tryz.prog 64 #[.pointer (some ⟨h.b, 0, none⟩), .int .i64 ((j : Int) + 1)] w fun e w' => e = .returned (.tuple #[.iface m (.agg #[]), .int .i64 0]) ∧ h.To h.inn w w' := by
  subst hm
  have hF : 0 ≤ h.fuel ∧ h.fuel ≤ 9223372036854775807 := ⟨K.f0, K.f1⟩
  have hE : 0 ≤ h.ent ∧ h.ent ≤ 100000000 := ⟨K.e0, by have := K.e1; have := K.d1; omega⟩
  have hl := K.len
  have SS := hide H.start
  go_enter Tryz.func64, Tryz.ntmps64
  go_wp2_with (first | go_skip | ((with_reducible show wpList _ _ _ _ _ _); first | (refine rd (by rfl) (ex_load1 3 Tryz.isAgg3 rfl rfl (((unhide SS).hp 0 rfl).blk) rfl) ?_; simp only [Act.put, n1, n2, n3]) | (refine rd (by rfl) (ex_eqNo rfl rfl rfl hf) ?_; simp only [Act.put, n1, n2, n3]) | (refine rd (by rfl) (ex_subF h rfl rfl rfl hF) ?_; simp only [Act.put, n1, n2, n3]) | ((refine stH (vs := [.int .i64 (h.fuel - 1)]) (h.less) 0 3 (by rfl) rfl rfl rfl rfl (by simp [Value.oneCell']) sz_i (unhide SS) rfl (by simp) rfl rfl rfl (by simp [cput, hcs, HP.less, HP.inn, HP.out]) ?_); intro X1 S1; replace SS := hide S1; clear S1; simp only [Act.put, n1, n2, n3])))
  have hS : Sy w _ h.blocks [hpO h.less] := (unhide SS).drew
  refine wp_region_held_drew (P := Tryz.prog) (S := fun X => Sy w X h.blocks [hpO h.less]) (by kernel_rfl) hS (fun hS0 => ?_)
  refine gsem 0 (some 18) (.pointer (some ⟨h.b, 0, none⟩)) rfl (by kernel_rfl) (by kernel_rfl) (by kernel_rfl) (fun _ _ _ h => h) (by kernel_rfl) (by kernel_rfl) (fun _ _ => by kernel_rfl) hS ?_
  simp only [Act.put, n1, n2, n3]
  refine gsem 1 (some 19) (.pointer (some ⟨h.b, 0, none⟩)) rfl (by kernel_rfl) (by kernel_rfl) (by kernel_rfl) (fun _ _ _ h => h) (by kernel_rfl) (by kernel_rfl) (fun _ _ => by kernel_rfl) hS ?_
  simp only [Act.put, n1, n2, n3]
  refine gsem 2 (some 20) (.pointer (some ⟨h.b, 4, none⟩)) rfl (by kernel_rfl) (by kernel_rfl) (by kernel_rfl) (fun _ _ _ h => h) (by kernel_rfl) (by kernel_rfl) (fun _ _ => by kernel_rfl) hS ?_
  simp only [Act.put, n1, n2, n3]
  refine gsem 3 (some 21) (.int .i64 h.ent) rfl (by kernel_rfl) (by kernel_rfl) (by kernel_rfl) (fun _ _ _ h => h) (by kernel_rfl) (by kernel_rfl) (fun X hX => ex_load1 3 Tryz.isAgg3 rfl rfl ((Sy.hp hX 0 rfl).blk) rfl) hS ?_
  simp only [Act.put, n1, n2, n3]
  refine gsem 4 (some 22) (.pointer (some ⟨h.b, 0, none⟩)) rfl (by kernel_rfl) (by kernel_rfl) (by kernel_rfl) (fun _ _ _ h => h) (by kernel_rfl) (by kernel_rfl) (fun _ _ => by kernel_rfl) hS ?_
  simp only [Act.put, n1, n2, n3]
  refine gsem 5 (some 23) (.pointer (some ⟨h.b, 0, none⟩)) rfl (by kernel_rfl) (by kernel_rfl) (by kernel_rfl) (fun _ _ _ h => h) (by kernel_rfl) (by kernel_rfl) (fun _ _ => by kernel_rfl) hS ?_
  simp only [Act.put, n1, n2, n3]
  refine gsem 6 (some 24) (.pointer (some ⟨h.b, 3, none⟩)) rfl (by kernel_rfl) (by kernel_rfl) (by kernel_rfl) (fun _ _ _ h => h) (by kernel_rfl) (by kernel_rfl) (fun _ _ => by kernel_rfl) hS ?_
  simp only [Act.put, n1, n2, n3]
  refine gsem 7 (some 25) (.int .i64 h.depth) rfl (by kernel_rfl) (by kernel_rfl) (by kernel_rfl) (fun _ _ _ h => h) (by kernel_rfl) (by kernel_rfl) (fun X hX => ex_load1 3 Tryz.isAgg3 rfl rfl ((Sy.hp hX 0 rfl).blk) rfl) hS ?_
  simp only [Act.put, n1, n2, n3]
  refine gsem 8 (some 26) (.bool false) rfl (by kernel_rfl) (by kernel_rfl) (by kernel_rfl) (fun _ _ _ h => h) (by kernel_rfl) (by kernel_rfl) (fun X hX => ex_eqNo rfl rfl rfl hd) hS ?_
  simp only [Act.put, n1, n2, n3]
  refine wpAnyH_done (by kernel_rfl) ?_ _
  try simp only [Act.put, n1, n2, n3]
  replace SS := hide hS
  go_wp2_with (first | go_skip | ((with_reducible show wpList _ _ _ _ _ _); first | (refine rd (by rfl) (ex_load1 3 Tryz.isAgg3 rfl rfl (((unhide SS).hp 0 rfl).blk) rfl) ?_; simp only [Act.put, n1, n2, n3]) | (refine rd (by rfl) (ex_addE h rfl rfl rfl hE) ?_; simp only [Act.put, n1, n2, n3]) | ((refine stH (h := h.less) (vs := [.int .i64 (h.ent + 1)]) (h.inn) 0 3 (by rfl) rfl rfl rfl rfl (by simp [Value.oneCell']) sz_i (unhide SS) rfl (by simp) rfl rfl rfl (by simp [cput, hcs, HP.less, HP.inn, HP.out]) ?_); intro X2 S2; replace SS := hide S2; clear S2; simp only [Act.put, n1, n2, n3])))
  have HI := (unhide SS).hp 0 rfl
  refine (at_h h.inn j q _ HI hj hl).mono ?_
  rintro _ _ ⟨rfl, rfl⟩
  have HO := hide (HI.ob (j := j) (o := q) hj).1
  go_wp2_with (first | go_skip | ((with_reducible show wpList _ _ _ _ _ _); first | (refine rd (by rfl) (ex_load1 77 Tryz.isAgg77 rfl rfl (unhide HO) rfl) ?_; simp only [Act.put, n1, n2, n3])))
  go_ret2
  exact ⟨rfl, HP.To.end H (unhide SS) rfl⟩
set_option maxRecDepth 100000 in
theorem leave_d (h : HP) (u : FrameMode) (w : World) (H : h.Is w) (hF : 0 ≤ h.ent ∧ h.ent ≤ 100000001) : CallsD Tryz.prog 65 #[.pointer (some ⟨h.b, 0, none⟩)] u w fun e u' w' => u' = u ∧ (e = .returned (.tuple #[]) ∧ h.To h.out w w') := by
  have SS := hide H.start
  go_enter_d Tryz.func65, Tryz.ntmps65
  go_wp2_with (first | go_skip | ((with_reducible show wpList _ _ _ _ _ _); first | (refine rd (by rfl) (ex_load1 3 Tryz.isAgg3 rfl rfl (((unhide SS).hp 0 rfl).blk) rfl) ?_; simp only [Act.put, n1, n2, n3]) | (refine rd (by rfl) (ex_subE h rfl rfl rfl hF) ?_; simp only [Act.put, n1, n2, n3]) | ((refine stH (vs := [.int .i64 (h.ent - 1)]) (h.out) 0 3 (by rfl) rfl rfl rfl rfl (by simp [Value.oneCell']) sz_i (unhide SS) rfl (by simp) rfl rfl rfl (by simp [cput, hcs, HP.less, HP.inn, HP.out]) ?_); intro X1 S1; replace SS := hide S1; clear S1; simp only [Act.put, n1, n2, n3])))
  go_end0
  exact ⟨rfl, HP.To.end H (unhide SS) rfl⟩
