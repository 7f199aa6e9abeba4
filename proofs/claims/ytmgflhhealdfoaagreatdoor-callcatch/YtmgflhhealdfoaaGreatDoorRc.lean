import Derived.Test.YtmgflhhealdfoaaGreatDoorRb
set_option linter.all false
namespace Go.Proofs.YtmgflhhealdfoaaGreatDoor
set_option maxHeartbeats 1000000
section
open Go Go.Proofs Go.Maps Go.RowKit FM
attribute [local go_sem] mm_GetOwnProperty mm_DefineOwnProperty mm_Get ta_caller ta_builder
theorem res_ctt {fn : Func} {tmps : Array Value} {w : World} {b r T n t t2 : Nat} {cs : List Value} {v v2 : Value} (hT : ∃ d, Tryz.prog.underlying T = some d ∧ d.isRow = true) (hn : (Tryz.prog.info? T).map (·.size) = some n) (hr : fn.results = #[.cell r T, .tmp t, .tmp t2])
    (hx : tmps.getD r undef = .pointer (some ⟨b, 0, none⟩)) (hv : tmps.getD t undef = v) (hv2 : tmps.getD t2 undef = v2) (hc : Holds w b cs) (hcs : cs.length = n) : (results fn tmps).run Tryz.prog w = .ok (.tuple #[.agg cs.toArray, v, v2]) w := by
  obtain ⟨d, hu, hd⟩ := hT
  have h0 := hc.mid 0 n
  rw [List.drop_zero, List.take_of_length_le (by omega)] at h0
  have hl := run_loadVar_mid (P := Tryz.prog) w b 0 T _ d h0 hu hd (by rw [hn, hcs])
  simp only [Array.getD_eq_getD_getElem?] at hx hv hv2
  unfold results
  simp [hr, hx, hl, asAddr, hv, hv2]
  try rfl
theorem res_ct {fn : Func} {tmps : Array Value} {w : World} {b r T n t : Nat} {cs : List Value} {v : Value} (hT : ∃ d, Tryz.prog.underlying T = some d ∧ d.isRow = true) (hn : (Tryz.prog.info? T).map (·.size) = some n) (hr : fn.results = #[.cell r T, .tmp t])
    (hx : tmps.getD r undef = .pointer (some ⟨b, 0, none⟩)) (hv : tmps.getD t undef = v) (hc : Holds w b cs) (hcs : cs.length = n) : (results fn tmps).run Tryz.prog w = .ok (.tuple #[.agg cs.toArray, v]) w := by
  obtain ⟨d, hu, hd⟩ := hT
  have h0 := hc.mid 0 n
  rw [List.drop_zero, List.take_of_length_le (by omega)] at h0
  have hl := run_loadVar_mid (P := Tryz.prog) w b 0 T _ d h0 hu hd (by rw [hn, hcs])
  simp only [Array.getD_eq_getD_getElem?] at hx hv
  unfold results
  simp [hr, hx, hl, asAddr, hv]
  try rfl
theorem dagg (d : DD) : d.agg = .agg d.cs.toArray := rfl
theorem kagg (d : KK) : d.agg = .agg d.cs.toArray := rfl
theorem vagg (d : VV) : d.agg = .agg d.cs.toArray := rfl
set_option maxRecDepth 100000 in
theorem ord_own (h : HP) (j : Nat) (q : OB) (k : KK) (w : World) (H : h.Is w) (hl : h.l.length ≤ 65536) (hj : h.l[j]? = some q) (hk : OkK k) : Calls Tryz.prog 156 #[.agg #[], .pointer (some ⟨h.b, 0, none⟩), .int .i64 ((j : Int) + 1), k.agg] w fun e w' => e = .returned (.tuple #[(getD q.T k).agg, .bool (q.T.find k).isSome, .nilIface]) ∧ Below w.heap.size w w' := by
  have SS := hide (Sy.nil w [])
  rw [kagg]
  go_enter Tryz.func156, Tryz.ntmps156
  go_wp2_with (first | go_skip | ((with_reducible show wpList _ _ _ _ _ _); first | ((refine bx0 72 (by rfl) rfl rfl (unhide SS) ?_); intro X0 B0 S0; replace SS := hide S0; clear S0; simp only [Act.put, n1, n2, n3]) | (refine zB 26 (k.cs) (by rfl) rfl rfl rfl SS ?_; clear SS; intro Xa Ba SS; simp only [Act.put, n1, n2, n3]) | (refine zA 38 (zeroD.cs) (by rfl) rfl SS ?_; clear SS; intro Xb Bb SS; simp only [Act.put, n1, n2, n3])))
  have hS : Sy w _ [] [boxO Ba k.cs, boxO Bb zeroD.cs] := (unhide SS).drew
  clear SS
  have cu : ∀ {X : World} {M : List Ob}, Sy w X [] ([boxO Ba k.cs, boxO Bb zeroD.cs] ++ M) → Sy w X [] [boxO Ba k.cs, boxO Bb zeroD.cs] := fun h => Sy.left h
  refine wp_region_held_drew (P := Tryz.prog) (S := fun X => Sy w X [] _) (by kernel_rfl) (hS) (fun hS0 => ?_)
  refine gp 0 (some 14) (.pointer (some ⟨h.b, 0, none⟩)) rfl rfl (hS) ?_
  simp only [Act.put, n1, n2, n3]
  refine gp 1 (some 15) (.int .i64 ((j : Int) + 1)) rfl rfl (hS) ?_
  simp only [Act.put, n1, n2, n3]
  refine gq 6 (some 20) (.agg k.cs.toArray) rfl rfl (fun X hX => ex_loadN (vs := k.cs) 26 2 rwK szK rfl rfl (hX.hold 0 rfl) rfl rfl) (hS) ?_
  simp only [Act.put, n1, n2, n3]
  refine gr (rs := [2, 11]) (gcW 2 (some 16) rfl rfl (hS) (at_h h j q _ (H.on hS.fr.below) hj hl) ?_ (galS (v := .agg (zeroD.cs).toArray) 11 (some 11) 38 (zeroD.cs) rfl rfl (by kernel_rfl) rfl (fun w => by kernel_rfl) rfl (Nat.succ_pos _) hS (fun _ hZ => cu hZ) ?_ gn))
  · refine gp 3 (some 17) (.pointer (some ⟨q.b, 0, none⟩)) rfl rfl (hS) ?_
    simp only [Act.put, n1, n2, n3]
    refine gp 4 (some 18) (.pointer (some ⟨q.b, 7, none⟩)) rfl rfl (hS) ?_
    simp only [Act.put, n1, n2, n3]
    refine gq 5 (some 19) (.pointer (some ⟨q.T.t, 0, none⟩)) rfl rfl (fun X hX => ex_load1 97 Tryz.isAgg97 rfl rfl ((H.on hX.fr.below).ob hj).1 rfl) (hS) ?_
    simp only [Act.put, n1, n2, n3]
    refine gr (rs := [7, 11]) (gcB 7 (some 21) rfl rfl hS (get19 q.T k _ ((H.on hS.fr.below).ob hj).2.1 hk) id ?_ (galS (v := .agg (zeroD.cs).toArray) 11 (some 11) 38 (zeroD.cs) rfl rfl (by kernel_rfl) rfl (fun w => by kernel_rfl) rfl (Nat.succ_pos _) hS (fun _ hZ => cu hZ) ?_ gn))
    · intro Y2 hq2
      refine gp 8 (some 13) (.tuple #[(getD q.T k).agg, .bool (q.T.find k).isSome]) rfl rfl (hq2) ?_
      simp only [Act.put, n1, n2, n3]
      refine gp 9 (some 22) ((getD q.T k).agg) rfl rfl (hq2) ?_
      simp only [Act.put, n1, n2, n3]
      refine gp 10 (some 23) (.bool (q.T.find k).isSome) rfl rfl (hq2) ?_
      simp only [Act.put, n1, n2, n3]
      refine gr (rs := [11]) (galS (v := .agg (zeroD.cs).toArray) 11 (some 11) 38 (zeroD.cs) rfl rfl (by kernel_rfl) rfl (fun w => by kernel_rfl) rfl (Nat.succ_pos _) hq2 (fun _ hZ => cu hZ) ?_ gn)
      intro Y3 B3 hE3 hq3
      clear hE3
      simp only [Act.put, n1, n2, n3]
      refine gr (rs := [12]) (gstS (vs := (getD q.T k).cs) (new := (getD q.T k).cs) 12 2 38 rfl rfl (by kernel_rfl) rfl rfl rfl rfl (oneD _) szD hq3 rfl (by simp [cput, VV.cs, KK.cs, DD.cs, OB.cs, hcs, zeroD, zeroV]) (by simp [cput, VV.cs, KK.cs, DD.cs, OB.cs, hcs, zeroD, zeroV]) (fun _ hZ => cu hZ) ?_ gn)
      intro Y4 hq4
      refine gp 13 (some 12) (.bool (q.T.find k).isSome) rfl rfl (cu hq4) ?_
      simp only [Act.put, n1, n2, n3]
      refine wpAnyH_done (by kernel_rfl) ?_ _
      try simp only [Act.put, n1, n2, n3]
      have SS := hide hq4
      go_wp2_with (first | go_skip | ((with_reducible show wpList _ _ _ _ _ _); first | (refine zL ((getD q.T k).cs) 38 18 2 rwD szD (by rfl) rfl rfl SS rfl rfl rfl ?_; simp only [Act.put, n1, n2, n3]) | (refine zS ((getD q.T k).cs) 1 38 (by rfl) rfl rfl rfl rfl (oneD _) szD SS rfl ?_; clear SS; intro Xr SS; simp only [Act.put, n1, n2, n3])))
      refine bodyPost_ret (res_ctt rwD szD rfl rfl rfl rfl ((unhide SS).hold 1 rfl) rfl) rfl ?_
      exact ⟨rfl, (unhide SS).fr.below⟩
    · intro Y5 B5 hE5 hq5
      clear hE5
      simp only [Act.put, n1, n2, n3]
      refine gr (rs := [7]) (gcB 7 (some 21) rfl rfl hq5 (get19 q.T k _ ((H.on hq5.fr.below).ob hj).2.1 hk) (fun x => cu x) ?_ gn)
      intro Y6 hq6
      refine gp 8 (some 13) (.tuple #[(getD q.T k).agg, .bool (q.T.find k).isSome]) rfl rfl (cu hq6) ?_
      simp only [Act.put, n1, n2, n3]
      refine gp 9 (some 22) ((getD q.T k).agg) rfl rfl (cu hq6) ?_
      simp only [Act.put, n1, n2, n3]
      refine gp 10 (some 23) (.bool (q.T.find k).isSome) rfl rfl (cu hq6) ?_
      simp only [Act.put, n1, n2, n3]
      refine gr (rs := [12]) (gstS (vs := (getD q.T k).cs) (new := (getD q.T k).cs) 12 2 38 rfl rfl (by kernel_rfl) rfl rfl rfl rfl (oneD _) szD hq6 rfl (by simp [cput, VV.cs, KK.cs, DD.cs, OB.cs, hcs, zeroD, zeroV]) (by simp [cput, VV.cs, KK.cs, DD.cs, OB.cs, hcs, zeroD, zeroV]) (fun _ hZ => cu hZ) ?_ gn)
      intro Y7 hq7
      refine gp 13 (some 12) (.bool (q.T.find k).isSome) rfl rfl (cu hq7) ?_
      simp only [Act.put, n1, n2, n3]
      refine wpAnyH_done (by kernel_rfl) ?_ _
      try simp only [Act.put, n1, n2, n3]
      have SS := hide hq7
      go_wp2_with (first | go_skip | ((with_reducible show wpList _ _ _ _ _ _); first | (refine zL ((getD q.T k).cs) 38 18 2 rwD szD (by rfl) rfl rfl SS rfl rfl rfl ?_; simp only [Act.put, n1, n2, n3]) | (refine zS ((getD q.T k).cs) 1 38 (by rfl) rfl rfl rfl rfl (oneD _) szD SS rfl ?_; clear SS; intro Xr SS; simp only [Act.put, n1, n2, n3])))
      refine bodyPost_ret (res_ctt rwD szD rfl rfl rfl rfl ((unhide SS).hold 1 rfl) rfl) rfl ?_
      exact ⟨rfl, (unhide SS).fr.below⟩
  · intro Y8 B8 hE8 hq8
    clear hE8
    simp only [Act.put, n1, n2, n3]
    refine gr (rs := [2]) (gcW 2 (some 16) rfl rfl (cu hq8) (at_h h j q _ (H.on hq8.fr.below) hj hl) ?_ gn)
    refine gp 3 (some 17) (.pointer (some ⟨q.b, 0, none⟩)) rfl rfl (cu hq8) ?_
    simp only [Act.put, n1, n2, n3]
    refine gp 4 (some 18) (.pointer (some ⟨q.b, 7, none⟩)) rfl rfl (cu hq8) ?_
    simp only [Act.put, n1, n2, n3]
    refine gq 5 (some 19) (.pointer (some ⟨q.T.t, 0, none⟩)) rfl rfl (fun X hX => ex_load1 97 Tryz.isAgg97 rfl rfl ((H.on hX.fr.below).ob hj).1 rfl) (cu hq8) ?_
    simp only [Act.put, n1, n2, n3]
    refine gr (rs := [7]) (gcB 7 (some 21) rfl rfl hq8 (get19 q.T k _ ((H.on hq8.fr.below).ob hj).2.1 hk) (fun x => cu x) ?_ gn)
    intro Y10 hq10
    refine gp 8 (some 13) (.tuple #[(getD q.T k).agg, .bool (q.T.find k).isSome]) rfl rfl (cu hq10) ?_
    simp only [Act.put, n1, n2, n3]
    refine gp 9 (some 22) ((getD q.T k).agg) rfl rfl (cu hq10) ?_
    simp only [Act.put, n1, n2, n3]
    refine gp 10 (some 23) (.bool (q.T.find k).isSome) rfl rfl (cu hq10) ?_
    simp only [Act.put, n1, n2, n3]
    refine gr (rs := [12]) (gstS (vs := (getD q.T k).cs) (new := (getD q.T k).cs) 12 2 38 rfl rfl (by kernel_rfl) rfl rfl rfl rfl (oneD _) szD hq10 rfl (by simp [cput, VV.cs, KK.cs, DD.cs, OB.cs, hcs, zeroD, zeroV]) (by simp [cput, VV.cs, KK.cs, DD.cs, OB.cs, hcs, zeroD, zeroV]) (fun _ hZ => cu hZ) ?_ gn)
    intro Y11 hq11
    refine gp 13 (some 12) (.bool (q.T.find k).isSome) rfl rfl (cu hq11) ?_
    simp only [Act.put, n1, n2, n3]
    refine wpAnyH_done (by kernel_rfl) ?_ _
    try simp only [Act.put, n1, n2, n3]
    have SS := hide hq11
    go_wp2_with (first | go_skip | ((with_reducible show wpList _ _ _ _ _ _); first | (refine zL ((getD q.T k).cs) 38 18 2 rwD szD (by rfl) rfl rfl SS rfl rfl rfl ?_; simp only [Act.put, n1, n2, n3]) | (refine zS ((getD q.T k).cs) 1 38 (by rfl) rfl rfl rfl rfl (oneD _) szD SS rfl ?_; clear SS; intro Xr SS; simp only [Act.put, n1, n2, n3])))
    refine bodyPost_ret (res_ctt rwD szD rfl rfl rfl rfl ((unhide SS).hold 1 rfl) rfl) rfl ?_
    exact ⟨rfl, (unhide SS).fr.below⟩
theorem inn_out (h : HP) : h.inn.out = h.less := by
  unfold HP.inn HP.out HP.less
  simp
def ePair (c : Int) : Value := .iface 29 (.int .i64 c)
theorem ex_zeroV {o : Oper} {a : Act} {w : World} (ho : o.op = .build 24 #[]) : (execOp a.eval o).run Tryz.prog w = .ok (.value (.agg zeroV.cs.toArray)) w := by
  have e : (Instr.build 24 #[]).run Tryz.prog w = .ok (.agg zeroV.cs.toArray) w := by kernel_rfl
  unfold execOp
  simp only [ho]
  simp [e]
set_option maxRecDepth 100000 in
theorem enDefineOwnProperty_n (h : HP) (j : Nat) (q : OB) (k : KK) (d : DD) (P : HP → Bool → Value → Prop) (w : World) (H : h.Is w) (K : h.Ok) (hj : h.l[j]? = some q) (hf : h.fuel ≠ 0) (hd : h.ent ≠ h.depth) (hC : ∀ X, h.To h.inn w X → Calls Tryz.prog 123 #[.agg #[], .pointer (some ⟨h.b, 0, none⟩), .int .i64 ((j : Int) + 1), k.agg, d.agg] X fun e w' => ∃ (h1 : HP) (y : Bool) (er : Value), e = .returned (.tuple #[.bool y, er]) ∧ P h1 y er ∧ h1.ent = h.ent + 1 ∧ h.inn.To h1 X w') : Calls Tryz.prog 46 #[.pointer (some ⟨h.b, 0, none⟩), .int .i64 ((j : Int) + 1), k.agg, d.agg] w fun e w' => ∃ (h1 : HP) (y : Bool) (er : Value), e = .returned (.tuple #[.bool y, er]) ∧ P h1 y er ∧ h.To h1.out w w' := by
  have SS := hide H.start
  have HC := hide hC
  have hE0 : 0 ≤ h.ent + 1 ∧ h.ent + 1 ≤ 100000001 := by have := K.e0; have := K.e1; have := K.d1; omega
  clear hC
  rw [dagg, kagg] at HC ⊢
  go_enter_defers Tryz.func46, Tryz.ntmps46
  go_wp2_with (first | go_skip | ((with_reducible show wpList _ _ _ _ _ _); first | (refine zB 26 (k.cs) (by rfl) rfl rfl rfl SS ?_; clear SS; intro Xp0 Bp0 SS; simp only [Act.put, n1, n2, n3]) | (refine zB 38 (d.cs) (by rfl) rfl rfl rfl SS ?_; clear SS; intro Xp1 Bp1 SS; simp only [Act.put, n1, n2, n3])))
  refine (enter_n h j q (mt q.m) rfl _ ((unhide SS).hp 0 rfl) K hj hf hd).mono ?_
  rintro _ Y1 ⟨rfl, T1⟩
  replace SS := hide ((unhide SS).heap 0 rfl T1)
  clear T1
  go_wp2_with (first | go_skip | ((with_reducible show wpList _ _ _ _ _ _); first | (refine zL (k.cs) 26 2 1 rwK szK (by rfl) rfl rfl SS rfl rfl rfl ?_; simp only [Act.put, n1, n2, n3]) | (refine zL (d.cs) 38 18 2 rwD szD (by rfl) rfl rfl SS rfl rfl rfl ?_; simp only [Act.put, n1, n2, n3])))
  refine (unhide HC _ (HP.To.end H (unhide SS) rfl)).mono ?_
  rintro _ Y2 ⟨h1, y, er, rfl, hP, hen, T2⟩
  replace SS := hide ((unhide SS).heap 0 rfl T2)
  have hb1 : h1.b = h.b := T2.hb
  clear T2
  go_wp2
  refine leaves_cons (f := 65) (args := #[.pointer (some ⟨h.b, 0, none⟩)]) (by simp) (by simp [go_sem]) ?_
  have HL := leave_d h1 .returning _ ((unhide SS).hp 0 rfl) (by rw [hen]; exact hE0)
  rw [hb1] at HL
  refine HL.mono ?_
  rintro e u2 w2 ⟨rfl, rfl, T3⟩
  replace SS := hide ((unhide SS).heap 0 rfl T3)
  exact ⟨_, results_tmp2 rfl _ _ _, h1, y, er, rfl, hP, HP.To.end H (unhide SS) hb1⟩
set_option maxRecDepth 100000 in
theorem enGet_n (h : HP) (j : Nat) (q : OB) (k : KK) (r : VV) (P : HP → VV → Value → Prop) (w : World) (H : h.Is w) (K : h.Ok) (hj : h.l[j]? = some q) (hf : h.fuel ≠ 0) (hd : h.ent ≠ h.depth) (hC : ∀ X, h.To h.inn w X → Calls Tryz.prog 124 #[.agg #[], .pointer (some ⟨h.b, 0, none⟩), .int .i64 ((j : Int) + 1), k.agg, r.agg] X fun e w' => ∃ (h1 : HP) (V : VV) (er : Value), e = .returned (.tuple #[V.agg, er]) ∧ P h1 V er ∧ h1.ent = h.ent + 1 ∧ h.inn.To h1 X w') : Calls Tryz.prog 50 #[.pointer (some ⟨h.b, 0, none⟩), .int .i64 ((j : Int) + 1), k.agg, r.agg] w fun e w' => ∃ (h1 : HP) (V : VV) (er : Value), e = .returned (.tuple #[V.agg, er]) ∧ P h1 V er ∧ h.To h1.out w w' := by
  have SS := hide H.start
  have HC := hide hC
  have hE0 : 0 ≤ h.ent + 1 ∧ h.ent + 1 ≤ 100000001 := by have := K.e0; have := K.e1; have := K.d1; omega
  clear hC
  rw [kagg, vagg] at HC ⊢
  go_enter_defers Tryz.func50, Tryz.ntmps50
  go_wp2_with (first | go_skip | ((with_reducible show wpList _ _ _ _ _ _); first | (refine zB 26 (k.cs) (by rfl) rfl rfl rfl SS ?_; clear SS; intro Xp0 Bp0 SS; simp only [Act.put, n1, n2, n3]) | (refine zB 24 (r.cs) (by rfl) rfl rfl rfl SS ?_; clear SS; intro Xp1 Bp1 SS; simp only [Act.put, n1, n2, n3]) | (refine zA 24 (zeroV.cs) (by rfl) rfl SS ?_; clear SS; intro Xc Bc SS; simp only [Act.put, n1, n2, n3])))
  refine (enter_n h j q (mt q.m) rfl _ ((unhide SS).hp 0 rfl) K hj hf hd).mono ?_
  rintro _ Y1 ⟨rfl, T1⟩
  replace SS := hide ((unhide SS).heap 0 rfl T1)
  clear T1
  go_wp2_with (first | go_skip | ((with_reducible show wpList _ _ _ _ _ _); first | (refine zL (k.cs) 26 2 1 rwK szK (by rfl) rfl rfl SS rfl rfl rfl ?_; simp only [Act.put, n1, n2, n3]) | (refine zL (r.cs) 24 5 2 rwV szV (by rfl) rfl rfl SS rfl rfl rfl ?_; simp only [Act.put, n1, n2, n3])))
  refine (unhide HC _ (HP.To.end H (unhide SS) rfl)).mono ?_
  rintro _ Y2 ⟨h1, V, er, rfl, hP, hen, T2⟩
  replace SS := hide ((unhide SS).heap 0 rfl T2)
  have hb1 : h1.b = h.b := T2.hb
  clear T2
  go_wp2_with (first | go_skip | ((with_reducible show wpList _ _ _ _ _ _); first | (refine zS (V.cs) 3 24 (by rfl) rfl rfl rfl rfl (oneV _) szV SS rfl ?_; clear SS; intro Xz SS; simp only [Act.put, n1, n2, n3])))
  refine leaves_cons (f := 65) (args := #[.pointer (some ⟨h.b, 0, none⟩)]) (by simp) (by simp [go_sem]) ?_
  have HL := leave_d h1 .returning _ ((unhide SS).hp 0 rfl) (by rw [hen]; exact hE0)
  rw [hb1] at HL
  refine HL.mono ?_
  rintro e u2 w2 ⟨rfl, rfl, T3⟩
  replace SS := hide ((unhide SS).heap 0 rfl T3)
  exact ⟨_, res_ct rwV szV rfl rfl rfl ((unhide SS).hold 3 rfl) rfl, h1, V, er, rfl, hP, HP.To.end H (unhide SS) hb1⟩
end
section
open Go Go.Proofs Go.Maps Go.RowKit FM
/-- What a table tells: its properties in order. -/
def pr (T : TT) : List (KK × DD) := T.live.map RR.pr
def hasP (l : List (KK × DD)) (k : KK) : Bool := l.any (fun e => decide (e.1 = k))
def lkP (l : List (KK × DD)) (k : KK) : Option DD := (l.find? (fun e => decide (e.1 = k))).map (·.2)
def putP (l : List (KK × DD)) (k : KK) (d : DD) : List (KK × DD) := if hasP l k then l.map (fun e => if e.1 = k then (e.1, d) else e) else l ++ [(k, d)]
theorem pr_has (T : TT) (k : KK) : hasP (pr T) k = (T.find k).isSome := by
  unfold hasP pr TT.find
  rw [List.isSome_find?, List.any_map]
  rfl
theorem pr_lk (T : TT) (k : KK) : lkP (pr T) k = (T.find k).map (·.d) := by
  unfold lkP pr TT.find
  rw [List.find?_map, Option.map_map]
  rfl
theorem pr_get (T : TT) (k : KK) : getD T k = (lkP (pr T) k).getD zeroD := by
  rw [pr_lk]
  rfl
theorem lk_has (l : List (KK × DD)) (k : KK) : (lkP l k).isSome = hasP l k := by
  unfold lkP hasP
  rw [Option.isSome_map, List.isSome_find?]
/-- What Put makes of a table. -/
def PutT (T : TT) (k : KK) (d : DD) (T' : TT) : Prop := (∃ r, T.find k = some r ∧ T' = T.upd r.b d) ∨ (T.find k = none ∧ goodK k = true ∧ ∃ rv R, T' = T.added rv R k d) ∨ (T.find k = none ∧ goodK k = false ∧ T' = T)
theorem PutT.last {T T' : TT} {k : KK} {d : DD} (h : PutT T k d T') : T'.last ≤ T.last + 1 := by
  rcases h with ⟨r, h1, rfl⟩ | ⟨h1, h2, rv, B, rfl⟩ | ⟨h1, h2, rfl⟩
  · exact Nat.le_succ _
  · exact Nat.le_refl _
  · exact Nat.le_succ _
theorem pr_put {T T' : TT} {W : World} {k : KK} {d : DD} (hT : T.Is W) (hg : goodK k = true) (h : PutT T k d T') : pr T' = putP (pr T) k d := by
  unfold putP
  rw [pr_has]
  rcases h with ⟨r, h1, rfl⟩ | ⟨h1, h2, rv, R, rfl⟩ | ⟨h1, h2, rfl⟩
  · rw [h1, if_pos (show (some r).isSome = true from rfl)]
    have hrl : r ∈ T.live := List.mem_of_find?_eq_some h1
    have hrk : r.k = k := (TT.find_mem h1).2.2
    unfold pr
    rw [TT.upd_live, List.map_map, List.map_map]
    apply List.map_congr_left
    intro q hq
    have e := block_key hT hrl hq
    show RR.pr (updR r.b d q) = if (RR.pr q).1 = k then ((RR.pr q).1, d) else RR.pr q
    unfold updR
    by_cases hb : q.b = r.b
    · rw [if_pos hb, if_pos (show (RR.pr q).1 = k from (e.1 hb).trans hrk)]
      rfl
    · rw [if_neg hb, if_neg (show ¬ (RR.pr q).1 = k from fun h => hb (e.2 (Eq.trans h hrk.symm)))]
  · rw [h1, if_neg (show ¬ ((none : Option RR).isSome = true) by simp)]
    unfold pr
    rw [TT.added_live, List.map_append]
    rfl
  · rw [hg] at h2
    cases h2
/-- An object without its memory. -/
structure PO where
  c : Int
  p : VV
  x : Bool
  ps : List (KK × DD)
def OB.po (o : OB) : PO := ⟨o.c, o.p, o.x, pr o.T⟩
/-- The tables of the library that are read. -/
def Tabs (w : World) : Prop := Lib.Utf8Tabs 1 2 w ∧ True
theorem Tabs.on {w X : World} (h : Tabs w) (k : Below w.heap.size w X) : Tabs X := ⟨tabs_below h.1 k, trivial⟩
theorem Tabs.fr {w X : World} {E : List Nat} (h : Tabs w) (hf : Fr w X E) (hE : ∀ b ∈ E, 6 ≤ b) : Tabs X :=
  ⟨tabs_fr h.1 hf (fun b hb => by have := hE b hb; omega), trivial⟩
theorem HP.To.tabs {h h' : HP} {w X : World} (A : h.To h' w X) (H : h.Is w) (hT : Tabs w) : Tabs X := hT.fr A.fr H.low
