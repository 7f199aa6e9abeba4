import Derived.Test.YthilnaeomkppaaaGreatFmtRo
set_option linter.all false
namespace Go.Proofs.YthilnaeomkppaaaGreatFmt
set_option maxHeartbeats 1000000
section
open Go Go.Proofs Go.Maps Go.RowKit FM
attribute [local go_sem] mm_DefineOwnProperty ta_caller
/-- A descriptor that says the greatest length alone. -/
def maxD : DD := ⟨numV 4751297606873776128, zeroV, zeroV, 0, 0, 0⟩
def maxC : List Value := numC 4751297606873776128 ++ zeroV.cs ++ zeroV.cs ++ [.int .i64 0, .int .i64 0, .int .i64 0]
theorem max_agg : maxD.agg = .agg maxC.toArray := rfl
theorem max_FD : FD maxD := by unfold FD maxD; decide
theorem oneM : ∀ u ∈ maxC, u.oneCell' = true := by simp [maxC, numC, VV.cs, Value.oneCell']
theorem ex_nfM {o : Oper} {a : Act} {w : World} {x : Operand} (ho : o.op = .convert 56 32 x) (hx : a.eval x = .int .u32 4294967295) : (execOp a.eval o).run Tryz.prog w = .ok (.value (.float .f64 4751297606873776128)) w := by
  rw [← nf_mx]
  exact ex_nf ho hx
theorem ex_ge32 {o : Oper} {a : Act} {w : World} {x y : Operand} {n m : Int} (ho : o.op = .binOp .geq 56 x y 56) (hx : a.eval x = .int .u32 n) (hc : a.eval y = .int .u32 m) (h : m ≤ n) : (execOp a.eval o).run Tryz.prog w = .ok (.value (.bool true)) w := by
  unfold execOp
  simp only [ho, hx, hc]
  simp [go_sem, eqGuard, h]
theorem ex_eqL {o : Oper} {a : Act} {w : World} {x y : Operand} (ho : o.op = .binOp .eql 42 x y 42) (hx : a.eval x = .agg lenK.cs.toArray) (hy : a.eval y = lenK.agg) : (execOp a.eval o).run Tryz.prog w = .ok (.value (.bool true)) w := by
  unfold execOp
  simp only [ho, hx, hy]
  kernel_rfl
theorem max_th : thV maxD.v = true := num_th _
theorem max_shape : shapeV maxD = 2 := by simp [shapeV, maxD, num_th, zero_th]
theorem max_kind : kindV maxD = 2 := by
  have hs : soundV maxD = true := by simp [soundV, maxD, num_th, num_good, callV, zero_th, triV, zeroV]; simp [thV]
  unfold kindV
  rw [hs, max_shape]
  rfl
theorem len_shape (n : Nat) : shapeV (lenD n) = 2 := by simp [shapeV, lenD, num_th, zero_th]
theorem len_no' (n : Nat) : noV (lenD n) = false := by unfold noV; rw [len_shape]; rfl
theorem len_st (n : Nat) : stV (lenD n) = true := by
  have hs : soundV (lenD n) = true := by simp [soundV, lenD, num_th, num_good, callV, zero_th, triV, zeroV]; simp [thV]
  have hk : kindV (lenD n) = 2 := by
    unfold kindV
    rw [hs, len_shape]
    rfl
  have h1 : thV (lenD n).v = true := num_th _
  have h2 : thV (lenD n).g = false := zero_th
  have h3 : thV (lenD n).s = false := zero_th
  unfold stV wholeV
  rw [len_no']
  simp only [hk, len_shape, h1, h2, h3]
  rfl
theorem app_max (x : Bool) (n : Nat) : appB x (lenD n) maxD = true ∧ appD x (lenD n) maxD = lenD 4294967295 := by
  have ht : turnV (lenD n) maxD = false := by unfold turnV; rw [max_shape, len_shape]; rfl
  have hf : forbV (lenD n) maxD = false := by
    unfold forbV
    rw [ht, len_shape]
    rfl
  refine ⟨?_, ?_⟩
  · unfold appB
    rw [max_kind, len_st, len_no', hf]
    rfl
  · unfold appD
    rw [max_kind, len_st, len_no', hf]
    show becV (lenD n) maxD = lenD 4294967295
    unfold becV
    rw [ht]
    simp [orV, orT, maxD, lenD, num_th, zero_th, nf_mx]
set_option maxRecDepth 100000 in
theorem whole_mx (h : HP) (w : World) (H : h.Is w) (hT : Tabs w) : Calls Tryz.prog 138 #[.pointer (some ⟨h.b, 0, none⟩), (numV 4751297606873776128).agg, .func (.func 139) #[] #[]] w fun e w' => e = .returned (.tuple #[.int .u32 4294967295, .nilIface]) ∧ Below w.heap.size w w' := by
  have SS := hide (Sy.nil w [])
  have HH := hide H
  clear H
  have HT := hide hT
  clear hT
  rw [num_agg]
  go_enter Tryz.func138, Tryz.ntmps138
  go_wp2_with (first | go_skip | ((with_reducible show wpList _ _ _ _ _ _); first | (refine zB 34 (numC 4751297606873776128) (by rfl) rfl rfl rfl SS ?_; clear SS; intro Xa Ba SS; simp only [Act.put, n1, n2, n3]) | (refine zL (numC 4751297606873776128) 34 5 0 rwV szV (by rfl) rfl rfl SS rfl rfl rfl ?_; simp only [Act.put, n1, n2, n3])))
  have HO := number_num h 4751297606873776128 _ ((unhide HH).on (unhide SS).fr.below) ((unhide HT).on (unhide SS).fr.below)
  rw [num_agg] at HO
  refine HO.mono ?_
  clear HO
  rintro _ Y ⟨rfl, hb⟩
  replace SS := hide ((unhide SS).on hb)
  clear hb
  go_wp2_with fail
  refine (u32_mx _).mono ?_
  rintro _ _ ⟨rfl, rfl⟩
  go_wp2
  go_ret2
  exact ⟨rfl, (unhide SS).fr.below⟩
set_option maxRecDepth 100000 in
theorem cu32_mx (h : HP) (w : World) (H : h.Is w) (hT : Tabs w) : Calls Tryz.prog 132 #[.pointer (some ⟨h.b, 0, none⟩), (numV 4751297606873776128).agg] w fun e w' => e = .returned (.tuple #[.int .u32 4294967295, .nilIface]) ∧ Below w.heap.size w w' := by
  have SS := hide (Sy.nil w [])
  have HH := hide H
  clear H
  have HT := hide hT
  clear hT
  rw [num_agg]
  go_enter Tryz.func132, Tryz.ntmps132
  go_wp2_with (first | go_skip | ((with_reducible show wpList _ _ _ _ _ _); first | (refine zB 34 (numC 4751297606873776128) (by rfl) rfl rfl rfl SS ?_; clear SS; intro Xa Ba SS; simp only [Act.put, n1, n2, n3]) | (refine zL (numC 4751297606873776128) 34 5 0 rwV szV (by rfl) rfl rfl SS rfl rfl rfl ?_; simp only [Act.put, n1, n2, n3])))
  have HO := whole_mx h _ ((unhide HH).on (unhide SS).fr.below) ((unhide HT).on (unhide SS).fr.below)
  rw [num_agg] at HO
  refine HO.mono ?_
  clear HO
  rintro _ Y ⟨rfl, hb⟩
  replace SS := hide ((unhide SS).on hb)
  clear hb
  go_wp2
  go_ret2
  exact ⟨rfl, (unhide SS).fr.below⟩
set_option maxRecDepth 100000 in
theorem aslen_mx (h : HP) (w : World) (H : h.Is w) (hT : Tabs w) : Calls Tryz.prog 129 #[.pointer (some ⟨h.b, 0, none⟩), (numV 4751297606873776128).agg] w fun e w' => e = .returned (.tuple #[.int .u32 4294967295, .nilIface]) ∧ Below w.heap.size w w' := by
  have SS := hide (Sy.nil w [])
  have HH := hide H
  clear H
  have HT := hide hT
  clear hT
  rw [num_agg]
  go_enter Tryz.func129, Tryz.ntmps129
  go_wp2_with (first | go_skip | ((with_reducible show wpList _ _ _ _ _ _); first | (refine zB 34 (numC 4751297606873776128) (by rfl) rfl rfl rfl SS ?_; clear SS; intro Xa Ba SS; simp only [Act.put, n1, n2, n3]) | (refine zL (numC 4751297606873776128) 34 5 0 rwV szV (by rfl) rfl rfl SS rfl rfl rfl ?_; simp only [Act.put, n1, n2, n3])))
  have HO := cu32_mx h _ ((unhide HH).on (unhide SS).fr.below) ((unhide HT).on (unhide SS).fr.below)
  rw [num_agg] at HO
  refine HO.mono ?_
  clear HO
  rintro _ Y ⟨rfl, hb⟩
  replace SS := hide ((unhide SS).on hb)
  clear hb
  go_wp2_with (first | go_skip | ((with_reducible show wpList _ _ _ _ _ _); first | (refine zL (numC 4751297606873776128) 34 5 0 rwV szV (by rfl) rfl rfl SS rfl rfl rfl ?_; simp only [Act.put, n1, n2, n3])))
  have HO := number_num h 4751297606873776128 _ ((unhide HH).on (unhide SS).fr.below) ((unhide HT).on (unhide SS).fr.below)
  rw [num_agg] at HO
  refine HO.mono ?_
  clear HO
  rintro _ Y ⟨rfl, hb⟩
  replace SS := hide ((unhide SS).on hb)
  clear hb
  go_wp2_with (first | go_skip | ((with_reducible show wpList _ _ _ _ _ _); first | (refine rd (by rfl) (ex_nfM rfl rfl) ?_; simp only [Act.put, n1, n2, n3]) | (refine rd (by rfl) (ex_neF rfl rfl rfl) ?_; simp only [Act.put, n1, n2, n3])))
  go_ret2
  exact ⟨rfl, (unhide SS).fr.below⟩
set_option maxRecDepth 100000 in
set_option maxHeartbeats 2000000 in
theorem deflen_mx (h : HP) (j : Nat) (q : OB) (n : Nat) (vs : List VV) (w : World) (H : h.Is w) (hT : Tabs w) (hl : h.l.length ≤ 65536) (hj : h.l[j]? = some q) (hp : pr q.T = arrL n vs) (hn : n ≤ 2000 ∨ n = 4294967295) (hla : q.T.last < 4000000) : Calls Tryz.prog 126 #[.agg #[], .pointer (some ⟨h.b, 0, none⟩), .int .i64 ((j : Int) + 1), maxD.agg] w fun e w' => ∃ (h1 : HP) (y : Bool), e = .returned (.tuple #[.bool y, .nilIface]) ∧ DefP h j q lenK maxD h1 y ∧ h.To h1 w w' := by
  have hgl := arr_get_len hp
  have hCv : Cv (getD q.T lenK).v.x n := by rw [hgl]; exact nf_cv hn
  have hw2 : (getD q.T lenK).w = 2 := by rw [hgl]; rfl
  have hFn : FD (getD q.T lenK) := by rw [hgl]; exact ⟨nf_lt hn, show 0 < 2 ^ 64 by decide, show 0 < 2 ^ 64 by decide⟩
  have hge : (n : Int) ≤ 4294967295 := by omega
  have SS := hide H.start
  rw [max_agg]
  go_enter Tryz.func126, Tryz.ntmps126
  go_wp2_with (first | go_skip | ((with_reducible show wpList _ _ _ _ _ _); first | ((refine bxE (by rfl) rfl rfl (unhide SS) ?_); intro X0 B0 S0; replace SS := hide S0; clear S0; simp only [Act.put, n1, n2, n3]) | (refine zB 47 (maxC) (by rfl) rfl rfl rfl SS ?_; clear SS; intro Xd Bd SS; simp only [Act.put, n1, n2, n3]) | (refine z1 3 Tryz.isAgg3 2 (by rfl) rfl rfl SS rfl rfl ?_; simp only [Act.put, n1, n2, n3]) | (refine zL (numC 4751297606873776128) 34 5 2 rwV szV (by rfl) rfl rfl SS rfl rfl rfl ?_; simp only [Act.put, n1, n2, n3])))
  have HO := aslen_mx h _ ((unhide SS).hp 0 rfl) (hT.fr (unhide SS).fr H.low)
  rw [num_agg] at HO
  refine HO.mono ?_
  clear HO
  rintro _ Y ⟨rfl, hb⟩
  replace SS := hide ((unhide SS).on hb)
  clear hb
  go_wp2_with (first | go_skip | ((with_reducible show wpList _ _ _ _ _ _); first | (refine rd (by rfl) (ex_nfM rfl rfl) ?_; simp only [Act.put, n1, n2, n3])))
  have HO := fun X => num_any 4751297606873776128 X
  simp only [num_agg] at HO
  refine (HO _).mono ?_
  clear HO
  rintro _ Y ⟨rfl, hb⟩
  replace SS := hide ((unhide SS).on hb)
  clear hb
  go_wp2_with (first | go_skip | ((with_reducible show wpList _ _ _ _ _ _); first | (refine zS (hp := (by decide)) (numC 4751297606873776128) 2 34 (by rfl) rfl rfl rfl rfl (oneN _) szV SS rfl ?_; clear SS; intro Xe SS; simp only [Act.put, n1, n2, n3]) | (refine rd (by rfl) (ldM rfl rfl) ?_; simp only [Act.put, n1, n2, n3])))
  have HO := alen_h h j q n _ ((unhide SS).hp 0 rfl) hl hj hCv hw2
  refine HO.mono ?_
  clear HO
  rintro _ Y ⟨rfl, hb⟩
  replace SS := hide ((unhide SS).on hb)
  clear hb
  go_wp2_with (first | go_skip | ((with_reducible show wpList _ _ _ _ _ _); first | (refine rd (by rfl) (ex_ge32 rfl rfl rfl hge) ?_; simp only [Act.put, n1, n2, n3])))
  have hS9 : Sy w _ h.blocks [hpO h, empO B0, boxO Bd maxC] := (unhide SS).drew
  clear SS
  refine wp_region_held_drew (P := Tryz.prog) (S := fun X => X.heap[B0]? = some (Obj.cells #[] 60) ∧ Holds X Bd maxC) (by kernel_rfl) (⟨hS9.emp 1 rfl, hS9.hold 2 rfl⟩) (fun hS0 => ?_)
  refine gq 0 (some 51) (.pointer (some ⟨B0, 0, none⟩)) rfl rfl (fun X hX => faM rfl rfl hX.1) (⟨hS9.emp 1 rfl, hS9.hold 2 rfl⟩) ?_
  simp only [Act.put, n1, n2, n3]
  refine gq 1 (some 52) (.agg #[]) rfl rfl (fun X hX => ldO rfl rfl) (⟨hS9.emp 1 rfl, hS9.hold 2 rfl⟩) ?_
  simp only [Act.put, n1, n2, n3]
  refine gp 2 (some 53) (.pointer (some ⟨h.b, 0, none⟩)) rfl rfl (⟨hS9.emp 1 rfl, hS9.hold 2 rfl⟩) ?_
  simp only [Act.put, n1, n2, n3]
  refine gp 3 (some 54) (.int .i64 ((j : Int) + 1)) rfl rfl (⟨hS9.emp 1 rfl, hS9.hold 2 rfl⟩) ?_
  simp only [Act.put, n1, n2, n3]
  refine gq 5 (some 56) (.agg maxC.toArray) rfl rfl (fun X hX => ex_loadN (vs := maxC) 47 18 rwD szD rfl rfl hX.2 rfl rfl) (⟨hS9.emp 1 rfl, hS9.hold 2 rfl⟩) ?_
  simp only [Act.put, n1, n2, n3]
  refine gr (rs := [4]) (gc 4 (some 55) rfl rfl (lkey_any _) ?_ gn)
  rintro e Yt1 ⟨rfl, hYt1⟩
  have hqt1 := Sy.on hS9 hYt1
  refine ⟨_, rfl, ⟨hqt1.emp 1 rfl, hqt1.hold 2 rfl⟩, ?_⟩
  simp only [Act.put, n1, n2, n3]
  refine gr (rs := [6]) (gc 6 (some 57) rfl rfl (ord_define h j q lenK maxD _ (hqt1.hp 0 rfl) hl hj (hT.fr hqt1.fr H.low) lenK_ok lenK_good hFn max_FD hla) ?_ gn)
  rintro e Yt2 ⟨h1, y, rfl, hP, T3⟩
  have hqp := Sy.heap hqt1 0 rfl T3
  refine ⟨_, rfl, ⟨hqp.emp 1 rfl, hqp.hold 2 rfl⟩, ?_⟩
  refine gp 7 (some 58) (.bool y) rfl rfl (⟨hqp.emp 1 rfl, hqp.hold 2 rfl⟩) ?_
  simp only [Act.put, n1, n2, n3]
  refine gp 8 (some 59) (.nilIface) rfl rfl (⟨hqp.emp 1 rfl, hqp.hold 2 rfl⟩) ?_
  simp only [Act.put, n1, n2, n3]
  refine gp 9 (some 8) (.bool y) rfl rfl (⟨hqp.emp 1 rfl, hqp.hold 2 rfl⟩) ?_
  simp only [Act.put, n1, n2, n3]
  refine gp 10 (some 9) (.nilIface) rfl rfl (⟨hqp.emp 1 rfl, hqp.hold 2 rfl⟩) ?_
  simp only [Act.put, n1, n2, n3]
  refine wpAnyH_done (by kernel_rfl) ?_ _
  try simp only [Act.put, n1, n2, n3]
  have SS := hide hqp
  have hb1 : h1.b = h.b := T3.hb
  clear T3 hqp
  have HP_ := hide hP
  clear hP
  go_wp2
  go_ret2
  exact ⟨h1, y, rfl, unhide HP_, HP.To.end H (unhide SS) hb1⟩
set_option maxRecDepth 100000 in
set_option maxHeartbeats 2000000 in
theorem mdef_mx (h : HP) (j : Nat) (q : OB) (n : Nat) (vs : List VV) (w : World) (H : h.Is w) (hT : Tabs w) (hl : h.l.length ≤ 65536) (hj : h.l[j]? = some q) (hp : pr q.T = arrL n vs) (hn : n ≤ 2000 ∨ n = 4294967295) (hla : q.T.last < 4000000) : Calls Tryz.prog 124 #[.agg #[], .pointer (some ⟨h.b, 0, none⟩), .int .i64 ((j : Int) + 1), lenK.agg, maxD.agg] w fun e w' => ∃ (h1 : HP) (y : Bool), e = .returned (.tuple #[.bool y, .nilIface]) ∧ DefP h j q lenK maxD h1 y ∧ h.To h1 w w' := by
  have SS := hide H.start
  rw [kagg, max_agg]
  go_enter Tryz.func124, Tryz.ntmps124
  go_wp2_with (first | go_skip | ((with_reducible show wpList _ _ _ _ _ _); first | ((refine bxE (by rfl) rfl rfl (unhide SS) ?_); intro X0 B0 S0; replace SS := hide S0; clear S0; simp only [Act.put, n1, n2, n3]) | (refine zB 42 (lenK.cs) (by rfl) rfl rfl rfl SS ?_; clear SS; intro Xa Ba SS; simp only [Act.put, n1, n2, n3]) | (refine zB 47 (maxC) (by rfl) rfl rfl rfl SS ?_; clear SS; intro Xb Bb SS; simp only [Act.put, n1, n2, n3])))
  have hS1 : Sy w _ h.blocks [hpO h, empO B0, boxO Ba lenK.cs, boxO Bb maxC] := (unhide SS).drew
  clear SS
  refine wp_region_held_drew (P := Tryz.prog) (S := fun X => Sy w X h.blocks _) (by kernel_rfl) (hS1) (fun hS0 => ?_)
  refine gq 0 (some 14) (.agg lenK.cs.toArray) rfl rfl (fun X hX => ex_loadN (vs := lenK.cs) 42 2 rwK szK rfl rfl (hX.hold 2 rfl) rfl rfl) (hS1) ?_
  simp only [Act.put, n1, n2, n3]
  refine gr (rs := [1]) (gcB 1 (some 15) rfl rfl hS1 (lkey_any _) id ?_ gn)
  intro Yt1 hqt1
  refine gq 2 (some 16) (.bool true) rfl rfl (fun X hX => ex_eqL rfl rfl rfl) (hqt1) ?_
  simp only [Act.put, n1, n2, n3]
  refine wpAnyH_done (by kernel_rfl) ?_ _
  try simp only [Act.put, n1, n2, n3]
  have SS := hide hqt1
  go_wp2_with (first | go_skip | ((with_reducible show wpList _ _ _ _ _ _); first | (refine rd (by rfl) (ldM rfl rfl) ?_; simp only [Act.put, n1, n2, n3]) | (refine zL (maxC) 47 18 3 rwD szD (by rfl) rfl rfl SS rfl rfl rfl ?_; simp only [Act.put, n1, n2, n3])))
  have HO := deflen_mx h j q n vs _ ((unhide SS).hp 0 rfl) (hT.fr (unhide SS).fr H.low) hl hj hp hn hla
  rw [max_agg] at HO
  refine HO.mono ?_
  clear HO
  rintro _ Y3 ⟨h1, y, rfl, hP, T3⟩
  replace SS := hide ((unhide SS).heap 0 rfl T3)
  have hb1 : h1.b = h.b := T3.hb
  clear T3
  have HP_ := hide hP
  clear hP
  go_wp2
  go_ret2
  exact ⟨h1, y, rfl, unhide HP_, HP.To.end H (unhide SS) hb1⟩
theorem max_turn {h h1 : HP} {j : Nat} {q : OB} {n : Nat} {vs : List VV} {y : Bool} (hp : pr q.T = arrL n vs) (hP : DefP h j q lenK maxD h1 y) : y = true ∧ ∃ T' : TT, h1 = h.tab j q T' ∧ pr T' = arrL 4294967295 vs := by
  unfold DefP at hP
  rw [arr_get_len hp, (app_max q.x n).1, (app_max q.x n).2] at hP
  obtain ⟨rfl, hP⟩ := hP
  rcases hP with ⟨h0, _⟩ | ⟨_, T', rfl, _, hpr⟩
  · cases h0
  · exact ⟨rfl, T', rfl, by rw [hpr, hp, arr_turn]⟩
/-- The heap behind it. -/
def MaxP (h : HP) (j : Nat) (q : OB) (vs : List VV) (h1 : HP) (y : Bool) (er : Value) : Prop := y = true ∧ er = .nilIface ∧ ∃ T' : TT, h1.l = h.l.set j { q with T := T' } ∧ pr T' = arrL 4294967295 vs
theorem endef_mx (h : HP) (j : Nat) (q : OB) (n : Nat) (vs : List VV) (w : World) (H : h.Is w) (hT : Tabs w) (K : h.Ok) (hj : h.l[j]? = some q) (hp : pr q.T = arrL n vs) (hn : n ≤ 2000 ∨ n = 4294967295) (hla : q.T.last < 4000000) (hf : h.fuel ≠ 0) (hd : h.ent ≠ h.depth) : Calls Tryz.prog 30 #[.pointer (some ⟨h.b, 0, none⟩), .int .i64 ((j : Int) + 1), lenK.agg, maxD.agg] w fun e w' => ∃ (h1 : HP) (y : Bool) (er : Value), e = .returned (.tuple #[.bool y, er]) ∧ MaxP h j q vs h1 y er ∧ h.To h1 w w' := by
  refine (enDefineOwnProperty_n h j q lenK maxD (fun h1 y er => MaxP h j q vs h1.out y er) w H K hj hf hd ?_).mono ?_
  · intro X T1
    refine (mdef_mx h.inn j q n vs X T1.is (T1.tabs H hT) K.len hj hp hn hla).mono ?_
    rintro _ Y ⟨h1, y, rfl, hP, T2⟩
    obtain ⟨rfl, T', rfl, hpr⟩ := max_turn hp hP
    exact ⟨_, true, .nilIface, rfl, ⟨rfl, rfl, T', rfl, hpr⟩, rfl, T2⟩
  · rintro _ Y ⟨h1, y, er, rfl, hP, T2⟩
    exact ⟨_, y, er, rfl, hP, T2⟩
theorem known_max (n : Nat) : knownE n [maxD.v, maxD.g, maxD.s] = 0 := by simp [knownE, knownV, maxD, numV, zeroV]
theorem acc_max : accE [maxD.g, maxD.s] = 0 := by simp [accE, noRef, maxD, zeroV]
theorem chk_max : chkV maxD = 0 := by unfold chkV; rw [max_kind]; rfl
theorem ddef_mx (h : HP) (j : Nat) (q : OB) (n : Nat) (vs : List VV) (w : World) (H : h.Is w) (hT : Tabs w) (K : h.Ok) (hj : h.l[j]? = some q) (hp : pr q.T = arrL n vs) (hn : n ≤ 2000 ∨ n = 4294967295) (hla : q.T.last < 4000000) (hf : h.fuel ≠ 0) (hd : h.ent ≠ h.depth) : Calls Tryz.prog 10 #[.pointer (some ⟨h.b, 0, none⟩), .int .i64 ((j : Int) + 1), lenK.agg, maxD.agg] w fun e w' => ∃ (h1 : HP) (T' : TT), e = .returned (.tuple #[.bool true, .nilIface]) ∧ h1.l = h.l.set j { q with T := T' } ∧ pr T' = arrL 4294967295 vs ∧ h.To h1 w w' := by
  refine (dorDefineOwnProperty h ((j : Int) + 1) lenK maxD w H K.len hT max_FD (MaxP h j q vs) ?_).mono ?_
  · intro j' q' X ho hj' _ T1
    obtain rfl : j = j' := by omega
    obtain rfl : q = q' := Option.some.inj (hj.symm.trans hj')
    refine (endef_mx h j q n vs X T1.is (T1.tabs H hT) K hj hp hn hla hf hd).mono ?_
    exact fun e Y hh => hh
  · rintro _ Y ⟨h1, y, er, rfl, hP, T1⟩
    have hz : orE [thE ((j : Int) + 1) h.l.length, kErr lenK, chkV maxD, knownE h.l.length [maxD.v, maxD.g, maxD.s], accE [maxD.g, maxD.s]] = 0 := by
      have hlt := (List.getElem?_eq_some_iff.1 hj).1
      have h1 : thE ((j : Int) + 1) h.l.length = 0 := by
        unfold thE hasH
        rw [if_pos (by simp; omega)]
      have h2 : kErr lenK = 0 := by unfold kErr; rw [lenK_good]; rfl
      rw [h1, h2, chk_max, known_max, acc_max]
      rfl
    rcases hP with ⟨h0, _⟩ | ⟨_, rfl, rfl, T', hl1, hpr⟩
    · exact absurd hz h0
    · exact ⟨h1, T', rfl, hl1, hpr, T1⟩
set_option maxRecDepth 100000 in
theorem lnum (e : Int) (w : World) : Calls Tryz.prog 5 #[.int .i64 e] w fun r w' => r = .returned (.int .i64 e) ∧ w' = w := by
  go_enter Tryz.func5, Tryz.ntmps5
  go_wp2
  go_ret
  exact ⟨rfl, rfl⟩
set_option maxRecDepth 100000 in
theorem lstr (w : World) : Calls Tryz.prog 11 #[.string lenS] w fun e w' => e = .returned (lenK.agg) ∧ Below w.heap.size w w' := by
  have SS := hide (Sy.nil w [])
  go_enter Tryz.func11, Tryz.ntmps11
  go_wp2_with (first | go_skip | ((with_reducible show wpList _ _ _ _ _ _); first | (refine zA 42 ([.string ByteArray.empty, .int .i64 0]) (by rfl) rfl SS ?_; clear SS; intro Xa Ba SS; simp only [Act.put, n1, n2, n3]) | (refine rd (by rfl) (ex_lk rfl rfl) ?_; simp only [Act.put, n1, n2, n3]) | (refine zS (lenK.cs) 0 42 (by rfl) rfl rfl rfl rfl (oneK _) szK SS rfl ?_; clear SS; intro Xb SS; simp only [Act.put, n1, n2, n3])))
  refine ret_c rwK szK rfl rfl rfl ((unhide SS).hold 0 rfl) rfl ?_
  exact ⟨rfl, (unhide SS).fr.below⟩
theorem ex_bnum {o : Oper} {a : Act} {w : World} {x : Operand} {b : Nat} (ho : o.op = .build 34 #[(0, .const (.int .i64 4)), (2, x)]) (hx : a.eval x = .float .f64 b) : (execOp a.eval o).run Tryz.prog w = .ok (.value (.agg (numC b).toArray)) w := by
  have e : (Instr.build 34 #[(0, .int .i64 4), (2, .float .f64 b)]).run Tryz.prog w = .ok (.agg (numC b).toArray) w := by kernel_rfl
  have h0 : a.eval (.const (.int .i64 4)) = .int .i64 4 := rfl
  unfold execOp
  simp only [ho, List.map_toArray, List.map_cons, List.map_nil, hx, h0]
  simp [e]
set_option maxRecDepth 100000 in
theorem lNum (x : Nat) (w : World) : Calls Tryz.prog 12 #[.float .f64 x] w fun e w' => e = .returned ((numV x).agg) ∧ Below w.heap.size w w' := by
  have SS := hide (Sy.nil w [])
  go_enter Tryz.func12, Tryz.ntmps12
  go_wp2_with (first | go_skip | ((with_reducible show wpList _ _ _ _ _ _); first | (refine zA 34 (zeroV.cs) (by rfl) rfl SS ?_; clear SS; intro Xa Ba SS; simp only [Act.put, n1, n2, n3]) | (refine rd (by rfl) (ex_bnum rfl rfl) ?_; simp only [Act.put, n1, n2, n3]) | (refine zS ((numV x).cs) 0 34 (by rfl) rfl rfl rfl rfl (oneV _) szV SS rfl ?_; clear SS; intro Xb SS; simp only [Act.put, n1, n2, n3])))
  refine ret_c rwV szV rfl rfl rfl ((unhide SS).hold 0 rfl) rfl ?_
  exact ⟨rfl, (unhide SS).fr.below⟩
theorem ex_notT {o : Oper} {a : Act} {w : World} {x : Operand} {b : Bool} (hb : b = true) (ho : o.op = .unOp .not 4 x) (hx : a.eval x = .bool b) : (execOp a.eval o).run Tryz.prog w = .ok (.value (.bool false)) w := by
  subst hb
  unfold execOp
  simp only [ho, hx]
  simp [go_sem]
set_option maxHeartbeats 2000000 in
set_option maxRecDepth 100000 in
theorem eqall_same (A B : Option Addr) (c d : Nat) (vs : List VV) (w : World) (hA : ReadsV w A vs) (hB : ReadsV w B vs) (hz : vs.length ≤ 1000000) : Calls Tryz.prog 24 #[.slice A vs.length c, .slice B vs.length d] w fun e w' => e = .returned (.bool true) ∧ Below w.heap.size w w' := by
  have SS := hide (Sy.nil w [])
  have HRA := hide hA
  have HRB := hide hB
  have HZ := hide hz
  clear hA hB hz
  go_enter Tryz.func24, Tryz.ntmps24
  go_wp2_with (first | go_skip | ((with_reducible show wpList _ _ _ _ _ _); first | (refine rd (by rfl) (ex_lenG 22 34 Tryz.underlying22 rfl rfl) ?_; simp only [Act.put, n1, n2, n3]) | (refine rd (by rfl) (ex_neY rfl rfl rfl rfl) ?_; simp only [Act.put, n1, n2, n3])))
  go_loopg [5] vs.length (fun gm s5 wr => ∃ i : Nat, s5 = .int .i64 (i : Nat) ∧ i ≤ vs.length ∧ vs.length - i ≤ gm ∧ Hid (Sy w wr [] []))
  case atStart => exact ⟨0, rfl, by omega, by omega, SS⟩
  case round =>
    clear SS
    obtain ⟨i, rfl, hil, hgm, SS⟩ := hrel
    by_cases hlt : i < vs.length
    · have dlt : decide ((i : Int) < (vs.length : Int)) = true := decide_eq_true (by omega)
      have hw1 : IntKind.i64.wrap ((i : Int) + 1) = (i : Int) + 1 := by have := unhide HZ; rw [IntKind.wrap_i64]; omega
      obtain ⟨v, hv⟩ : ∃ v, vs[i]? = some v := ⟨_, List.getElem?_eq_getElem hlt⟩
      obtain ⟨ba, oa, hA, hba, hra⟩ := (unhide HRA) i v hv
      obtain ⟨bb, ob, hB, hbb, hrb⟩ := (unhide HRB) i v hv
      subst hA hB
      have HA2 : ∀ X, Below w.heap.size w X → X.rangeAt ba (oa + i * 5) v.cs := fun X hX => rangeAt_on hra hba hX
      have HB2 : ∀ X, Below w.heap.size w X → X.rangeAt bb (ob + i * 5) v.cs := fun X hX => rangeAt_on hrb hbb hX
      have HLT := hide hlt
      clear hba hra hbb hrb hil hlt
      go_wp2_with (first | go_skip | ((with_reducible show wpList _ _ _ _ _ _); first | (refine rd (by rfl) (ex_lenG 22 34 Tryz.underlying22 rfl rfl) ?_; simp only [Act.put, n1, n2, n3])))
      have hlt := unhide HLT
      have hS6 : Sy w _ [] [] := (unhide SS).drew
      clear SS HLT
      refine wp_region_held_drew (P := Tryz.prog) (S := fun X => Sy w X [] _) (by kernel_rfl) (hS6) (fun hS0 => ?_)
      refine gp 0 (some 17) (.slice (some ⟨ba, oa, none⟩) vs.length c) rfl rfl (hS6) ?_
      simp only [Act.put, n1, n2, n3]
      refine gp 1 (some 18) (.int .i64 (i : Nat)) rfl rfl (hS6) ?_
      simp only [Act.put, n1, n2, n3]
      refine gq 2 (some 19) (.pointer (some ⟨ba, oa + i * 5, none⟩)) rfl rfl (fun X hX => ex_indexG 22 5 i unVs idVs rfl rfl rfl hlt) (hS6) ?_
      simp only [Act.put, n1, n2, n3]
      refine gq 3 (some 20) (.agg v.cs.toArray) rfl rfl (fun X hX => ex_loadR (vs := v.cs) 34 5 rwV szV rfl rfl (HA2 _ hX.fr.below) rfl) (hS6) ?_
      simp only [Act.put, n1, n2, n3]
      refine gp 4 (some 21) (.slice (some ⟨bb, ob, none⟩) vs.length d) rfl rfl (hS6) ?_
      simp only [Act.put, n1, n2, n3]
      refine gp 5 (some 22) (.int .i64 (i : Nat)) rfl rfl (hS6) ?_
      simp only [Act.put, n1, n2, n3]
      refine gq 6 (some 23) (.pointer (some ⟨bb, ob + i * 5, none⟩)) rfl rfl (fun X hX => ex_indexG 22 5 i unVs idVs rfl rfl rfl hlt) (hS6) ?_
      simp only [Act.put, n1, n2, n3]
      refine gq 7 (some 24) (.agg v.cs.toArray) rfl rfl (fun X hX => ex_loadR (vs := v.cs) 34 5 rwV szV rfl rfl (HB2 _ hX.fr.below) rfl) (hS6) ?_
      simp only [Act.put, n1, n2, n3]
      refine gr (rs := [8]) (gcB 8 (some 25) rfl rfl hS6 (eq_any v v _) id ?_ gn)
      intro Yt1 hqt1
      refine gq 9 (some 26) (.bool false) rfl rfl (fun X hX => ex_notT (eqB_self v) rfl rfl) (hqt1) ?_
      simp only [Act.put, n1, n2, n3]
      refine wpAnyH_done (by kernel_rfl) ?_ _
      try simp only [Act.put, n1, n2, n3]
      have SS := hide hqt1
      clear hqt1
      have HLT := hide hlt
      clear hlt HA2 HB2
      go_wp2
      go_roundg (vs.length - (i + 1))
      case measure => have := unhide HLT; omega
      case rel => exact ⟨i + 1, by go_num, by have := unhide HLT; omega, by omega, SS⟩
    · obtain rfl : i = vs.length := by omega
      clear hlt hil
      go_wp2_with (first | go_skip | ((with_reducible show wpList _ _ _ _ _ _); first | (refine rd (by rfl) (ex_lenG 22 34 Tryz.underlying22 rfl rfl) ?_; simp only [Act.put, n1, n2, n3])))
      go_ret
      exact ⟨rfl, (unhide SS).fr.below⟩
set_option maxRecDepth 100000 in
theorem lsame (A B : Option Addr) (c d m : Nat) (vs : List VV) (hm : vs.length = m) (w : World) (hA : ReadsV w A vs) (hB : ReadsV w B vs) (hz : m ≤ 1000000) : Calls Tryz.prog 9 #[.slice A m c, .slice B m d] w fun e w' => e = .returned (.bool true) ∧ Below w.heap.size w w' := by
  subst hm
  have HE := eqall_same A B c d vs w hA hB hz
  clear hA hB
  go_enter Tryz.func9, Tryz.ntmps9
  go_wp2_with fail
  refine HE.mono ?_
  rintro _ Y ⟨rfl, hb⟩
  have HB := hide hb
  clear hb
  go_wp2
  go_ret
  exact ⟨rfl, unhide HB⟩
