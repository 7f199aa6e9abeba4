import Derived.Test.YthilnaeomkppaaaGreatFmtRn
set_option linter.all false
namespace Go.Proofs.YthilnaeomkppaaaGreatFmt
set_option maxHeartbeats 1000000
section
open Go Go.Proofs Go.Maps Go.RowKit FM
attribute [local go_sem] mm_DefineOwnProperty ta_caller
theorem ex_fM {o : Oper} {a : Act} {w : World} {x : Operand} (ho : o.op = .field 60 x 0) (hx : a.eval x = .agg #[]) : (execOp a.eval o).run Tryz.prog w = .ok (.value (.agg #[])) w := by
  have e : (Instr.field 60 (.agg #[]) 0).run Tryz.prog w = .ok (.agg #[]) w := by kernel_rfl
  unfold execOp
  simp only [ho, hx]
  simp [e]
theorem ex_indexQ {o : Oper} {a : Act} {w : World} {x ix : Operand} {g off n cap q : Nat} (t : TypeId) (sz j : Nat) (hk : Tryz.prog.underlying t = some (.slice (Tryz.prog.elem t))) (he : ∀ w, (sizeOf (Tryz.prog.elem t)).run Tryz.prog w = .ok sz w) (ho : o.op = .indexAddr t x ix) (hx : a.eval x = .slice (some ⟨g, off, none⟩) n cap) (hix : a.eval ix = .int .i64 (j : Nat)) (hj : j < n) (hq : q = off + j * sz) : (execOp a.eval o).run Tryz.prog w = .ok (.value (.pointer (some ⟨g, q, none⟩))) w := by
  subst hq
  exact ex_indexG t sz j hk he ho hx hix hj
theorem bel_neg {n : Int} (h : n < 0) : belE n = 7 := by unfold belE; rw [if_pos h]
theorem bel_pos {n : Int} (h : 0 ≤ n) : belE n = 0 := by unfold belE; rw [if_neg (by omega)]
set_option maxRecDepth 100000 in
theorem values_no (h : HP) (o most : Int) (w : World) (H : h.Is w) (hc : hasH o h.l.length = false) : Calls Tryz.prog 7 #[.pointer (some ⟨h.b, 0, none⟩), .int .i64 o, .int .i64 most] w fun e w' => e = .returned (.tuple #[.slice none 0 0, .int .i64 4]) ∧ Below w.heap.size w w' := by
  have SS := hide (Sy.nil w [])
  have HH := hide H
  clear H
  go_enter Tryz.func7, Tryz.ntmps7
  go_wp2_with fail
  refine (len_no h o _ (unhide HH) hc).mono ?_
  rintro _ _ ⟨rfl, rfl⟩
  go_wp2_with fail
  refine (below_any most _).mono ?_
  rintro _ _ ⟨rfl, rfl⟩
  go_wp2_with (first | go_skip | ((with_reducible show wpList _ _ _ _ _ _); first | ((refine bsE2 (by rfl) rfl rfl rfl (unhide SS) ?_); intro Xe Be Se; replace SS := hide Se; clear Se; simp only [Act.put, n1, n2, n3])))
  refine (or_any Be 2 [4, belE most] _ ((unhide SS).hold 0 rfl) (by simp)).mono ?_
  rintro _ _ ⟨rfl, rfl⟩
  replace SS := hide (Sy.left (L := []) (M := [_]) (unhide SS))
  go_wp2_with (first | go_skip | ((with_reducible show wpList _ _ _ _ _ _); first | (refine rd (by rfl) (ex_neE1 rfl rfl rfl (show orE [4, belE most] ≠ 0 by simp [orE])) ?_; simp only [Act.put, n1, n2, n3])))
  go_ret2
  exact ⟨by simp [orE], (unhide SS).fr.below⟩
set_option maxRecDepth 100000 in
theorem values_neg (h : HP) (j : Nat) (q : OB) (n : Nat) (vs : List VV) (most : Int) (w : World) (H : h.Is w) (hl : h.l.length ≤ 65536) (hj : h.l[j]? = some q) (hq : q.c = 3) (hp : pr q.T = arrL n vs) (hn : n ≤ 2000 ∨ n = 4294967295) (hm : most < 0) : Calls Tryz.prog 7 #[.pointer (some ⟨h.b, 0, none⟩), .int .i64 ((j : Int) + 1), .int .i64 most] w fun e w' => e = .returned (.tuple #[.slice none 0 0, .int .i64 7]) ∧ Below w.heap.size w w' := by
  have hgl := arr_get_len hp
  have hCv : Cv (getD q.T lenK).v.x n := by rw [hgl]; exact nf_cv hn
  have hw2 : (getD q.T lenK).w = 2 := by rw [hgl]; rfl
  have hn32 : n ≤ 4294967295 := by omega
  have SS := hide (Sy.nil w [])
  have HH := hide H
  clear H
  go_enter Tryz.func7, Tryz.ntmps7
  go_wp2_with fail
  refine (len_arr h j q n _ (unhide HH) hl hj hq hCv hw2).mono ?_
  rintro _ Y ⟨rfl, hb⟩
  have hSb := (unhide SS).on hb
  replace SS := hide hSb
  clear hSb
  go_wp2_with fail
  refine (below_any most _).mono ?_
  rintro _ _ ⟨rfl, rfl⟩
  go_wp2_with (first | go_skip | ((with_reducible show wpList _ _ _ _ _ _); first | ((refine bsE2 (by rfl) rfl rfl rfl (unhide SS) ?_); intro Xe Be Se; replace SS := hide Se; clear Se; simp only [Act.put, n1, n2, n3])))
  refine (or_any Be 2 [0, belE most] _ ((unhide SS).hold 0 rfl) (by simp)).mono ?_
  rintro _ _ ⟨rfl, rfl⟩
  replace SS := hide (Sy.left (L := []) (M := [_]) (unhide SS))
  have hE : orE [0, belE most] = 7 := by rw [bel_neg hm]; rfl
  rw [hE]
  go_wp2_with fail
  go_ret2
  exact ⟨rfl, (unhide SS).fr.below⟩
set_option maxRecDepth 100000 in
theorem values_long (h : HP) (j : Nat) (q : OB) (n : Nat) (vs : List VV) (most : Int) (w : World) (H : h.Is w) (hl : h.l.length ≤ 65536) (hj : h.l[j]? = some q) (hq : q.c = 3) (hp : pr q.T = arrL n vs) (hn : n ≤ 2000 ∨ n = 4294967295) (hm : 0 ≤ most) (hm65 : 65536 < most) (hn2 : 65536 < n) : Calls Tryz.prog 7 #[.pointer (some ⟨h.b, 0, none⟩), .int .i64 ((j : Int) + 1), .int .i64 most] w fun e w' => e = .returned (.tuple #[.slice none 0 0, .int .i64 6]) ∧ Below w.heap.size w w' := by
  have hgl := arr_get_len hp
  have hCv : Cv (getD q.T lenK).v.x n := by rw [hgl]; exact nf_cv hn
  have hw2 : (getD q.T lenK).w = 2 := by rw [hgl]; rfl
  have hn32 : n ≤ 4294967295 := by omega
  obtain ⟨m, hmin⟩ : ∃ m : Int, (if most < (n : Int) then most else (n : Int)) = m := ⟨_, rfl⟩
  have hgt : decide ((65536 : Int) < m) = true := decide_eq_true (by subst hmin; split <;> omega)
  have SS := hide (Sy.nil w [])
  have HH := hide H
  clear H
  go_enter Tryz.func7, Tryz.ntmps7
  go_wp2_with fail
  refine (len_arr h j q n _ (unhide HH) hl hj hq hCv hw2).mono ?_
  rintro _ Y ⟨rfl, hb⟩
  have hSb := (unhide SS).on hb
  replace SS := hide hSb
  clear hSb
  go_wp2_with fail
  refine (below_any most _).mono ?_
  rintro _ _ ⟨rfl, rfl⟩
  go_wp2_with (first | go_skip | ((with_reducible show wpList _ _ _ _ _ _); first | ((refine bsE2 (by rfl) rfl rfl rfl (unhide SS) ?_); intro Xe Be Se; replace SS := hide Se; clear Se; simp only [Act.put, n1, n2, n3])))
  refine (or_any Be 2 [0, belE most] _ ((unhide SS).hold 0 rfl) (by simp)).mono ?_
  rintro _ _ ⟨rfl, rfl⟩
  replace SS := hide (Sy.left (L := []) (M := [_]) (unhide SS))
  have hE : orE [0, belE most] = 0 := by rw [bel_pos hm]; rfl
  rw [hE]
  go_wp2_with (first | go_skip | ((with_reducible show wpList _ _ _ _ _ _); first | (refine rd (by rfl) (ex_c64 rfl rfl hn32) ?_; simp only [Act.put, n1, n2, n3]) | (refine rd (by rfl) (ex_min rfl rfl rfl hmin) ?_; simp only [Act.put, n1, n2, n3]) | (refine rd (by rfl) (ex_gt64 rfl rfl rfl hgt) ?_; simp only [Act.put, n1, n2, n3])))
  go_ret2
  exact ⟨rfl, (unhide SS).fr.below⟩
theorem szStr : (Tryz.prog.info? 9).map (·.size) = some 1 := by kernel_rfl
set_option maxRecDepth 100000 in
set_option maxHeartbeats 2000000 in
theorem values_ok (h : HP) (j : Nat) (q : OB) (n : Nat) (vs : List VV) (most : Int) (w : World) (H : h.Is w) (hl : h.l.length ≤ 65536) (hj : h.l[j]? = some q) (hq : q.c = 3) (hp : pr q.T = arrL n vs) (hn : n ≤ 2000 ∨ n = 4294967295) (hT : Tabs w) (hg : ∀ i : Nat, ((vs[i]?).getD zeroV).s.size ≤ 1048576) (hm : 0 ≤ most) (m : Nat) (hmin : (if most < (n : Int) then most else (n : Int)) = (m : Int)) (hm65 : m ≤ 65536) : Calls Tryz.prog 7 #[.pointer (some ⟨h.b, 0, none⟩), .int .i64 ((j : Int) + 1), .int .i64 most] w fun e w' => ∃ B, e = .returned (.tuple #[.slice (some ⟨B, 0, none⟩) m m, .int .i64 0]) ∧ ReadsV w' (some ⟨B, 0, none⟩) (outV vs m) ∧ w.heap.size ≤ B ∧ Below w.heap.size w w' := by
  have hgl := arr_get_len hp
  have hCv : Cv (getD q.T lenK).v.x n := by rw [hgl]; exact nf_cv hn
  have hw2 : (getD q.T lenK).w = 2 := by rw [hgl]; rfl
  have hn32 : n ≤ 4294967295 := by omega
  have hgt : decide ((65536 : Int) < (m : Int)) = false := decide_eq_false (by omega)
  have HT := hide hT
  clear hT
  have SS := hide (Sy.nil w [])
  have HH := hide H
  clear H
  go_enter Tryz.func7, Tryz.ntmps7
  go_wp2_with fail
  refine (len_arr h j q n _ (unhide HH) hl hj hq hCv hw2).mono ?_
  rintro _ Y ⟨rfl, hb⟩
  have hSb := (unhide SS).on hb
  replace SS := hide hSb
  clear hSb
  go_wp2_with fail
  refine (below_any most _).mono ?_
  rintro _ _ ⟨rfl, rfl⟩
  go_wp2_with (first | go_skip | ((with_reducible show wpList _ _ _ _ _ _); first | ((refine bsE2 (by rfl) rfl rfl rfl (unhide SS) ?_); intro Xe Be Se; replace SS := hide Se; clear Se; simp only [Act.put, n1, n2, n3])))
  refine (or_any Be 2 [0, belE most] _ ((unhide SS).hold 0 rfl) (by simp)).mono ?_
  rintro _ _ ⟨rfl, rfl⟩
  replace SS := hide (Sy.left (L := []) (M := [_]) (unhide SS))
  have hE : orE [0, belE most] = 0 := by rw [bel_pos hm]; rfl
  rw [hE]
  go_wp2_with (first | go_skip | ((with_reducible show wpList _ _ _ _ _ _); first | (refine rd (by rfl) (ex_c64 rfl rfl hn32) ?_; simp only [Act.put, n1, n2, n3]) | (refine rd (by rfl) (ex_min rfl rfl rfl hmin) ?_; simp only [Act.put, n1, n2, n3]) | (refine rd (by rfl) (ex_gt64 rfl rfl rfl hgt) ?_; simp only [Act.put, n1, n2, n3]) | ((refine mkV m (by rfl) rfl rfl rfl hm65 (unhide SS) ?_); intro Xm Bm hBm Sm; replace SS := hide Sm; clear Sm; simp only [Act.put, n1, n2, n3]) | (refine rd (by rfl) (ex_lenG 22 34 Tryz.underlying22 rfl rfl) ?_; simp only [Act.put, n1, n2, n3])))
  go_loopg [41] m (fun gm s41 wr => ∃ i : Nat, s41 = .int .i64 (i : Nat) ∧ i ≤ m ∧ m - i ≤ gm ∧ Hid (Sy w wr [] [rowO w.heap.size 34 5 (.slice (some ⟨Bm, 0, none⟩) m m) m ((rowI vs m i).flatMap VV.cs)]))
  case atStart => exact ⟨0, rfl, by omega, by omega, by rw [rowI_zero]; exact SS⟩
  case round =>
    clear SS
    obtain ⟨i, rfl, hil, hgm, SS⟩ := hrel
    by_cases hlt : i < m
    · have dlt : decide ((i : Int) < (m : Int)) = true := decide_eq_true (by omega)
      have hw1 : IntKind.i64.wrap ((i : Int) + 1) = (i : Int) + 1 := by rw [IntKind.wrap_i64]; omega
      have hi32 : i ≤ 4294967295 := by omega
      have hok := idx_ok (u := i) (by omega)
      obtain ⟨d, hd⟩ : ∃ d, getD q.T (idxK i) = d := ⟨_, rfl⟩
      have hdv : d.v = (vs[i]?).getD zeroV := by rw [← hd]; exact arr_val hp i
      have hds := hg i
      rw [← hdv] at hds
      have HDV := hide hdv
      clear hdv
      have HLT := hide hlt
      obtain ⟨q0, hq0⟩ : ∃ q0, q0 = 0 + i * 5 := ⟨_, rfl⟩
      have HQ := hide hq0
      clear hq0 hlt hil
      go_wp2_with (first | go_skip | ((with_reducible show wpList _ _ _ _ _ _); first | (refine rd (by rfl) (ex_bM rfl) ?_; simp only [Act.put, n1, n2, n3]) | (refine rd (by rfl) (ex_fM rfl rfl) ?_; simp only [Act.put, n1, n2, n3]) | (refine rd (by rfl) (ex_c32 rfl rfl hi32) ?_; simp only [Act.put, n1, n2, n3])))
      refine (fromIndex32 i hi32 _ ((unhide HT).on (unhide SS).fr.below).2).mono ?_
      rintro _ X1 ⟨rfl, hb1⟩
      replace SS := hide ((unhide SS).on hb1)
      clear hb1
      go_wp2_with fail
      have HO := ord_own h j q (idxK i) _ ((unhide HH).on (unhide SS).fr.below) hl hj hok
      rw [hd] at HO
      refine HO.mono ?_
      clear HO
      rintro _ X2 ⟨rfl, hb2⟩
      replace SS := hide ((unhide SS).on hb2)
      clear hb2
      go_wp2_with (first | go_skip | ((with_reducible show wpList _ _ _ _ _ _); first | (refine zA 47 (zeroD.cs) (by rfl) rfl SS ?_; clear SS; intro Xd Bd SS; simp only [Act.put, n1, n2, n3]) | (refine zS (d.cs) 1 47 (by rfl) rfl rfl rfl rfl (oneD d) szD SS rfl ?_; clear SS; intro X4 SS; simp only [Act.put, n1, n2, n3]) | (refine zL (d.v.cs) 34 5 1 rwV szV (by rfl) rfl rfl SS rfl rfl rfl ?_; simp only [Act.put, n1, n2, n3]) | (refine rd (by rfl) (ex_indexQ 22 5 i unVs idVs rfl rfl rfl (unhide HLT) (unhide HQ)) ?_; simp only [Act.put, n1, n2, n3]) | ((refine stE VV.cs 5 (fun _ => rfl) (j := i) (p := 0) (x0 := zeroV) (x' := d.v) (vs := d.v.cs) 0 34 (by rfl) rfl rfl rfl rfl (oneV d.v) szV (unhide SS) rfl (by simp [rowI_len]) (rowI_at vs (unhide HLT)) (by simp [VV.cs]) (rfl) (by have := unhide HQ; omega) ?_); intro X8 S8; replace SS := hide S8; clear S8; simp only [Act.put, n1, n2, n3]) | (refine z1 9 Tryz.isAgg9 1 (by rfl) rfl rfl SS rfl rfl ?_; simp only [Act.put, n1, n2, n3])))
      refine (clone_any d.v.s _ hds).mono ?_
      rintro _ X3 ⟨rfl, hb3⟩
      have S3 := (unhide SS).on hb3
      clear hb3 SS
      rw [unhide HDV, rowI_step vs (unhide HLT)] at S3
      have SS := hide S3
      clear S3
      go_wp2_with (first | go_skip | ((with_reducible show wpList _ _ _ _ _ _); first | (refine rd (by rfl) (ex_indexQ 22 5 i unVs idVs rfl rfl rfl (unhide HLT) (unhide HQ)) ?_; simp only [Act.put, n1, n2, n3]) | ((refine stE VV.cs 5 (fun _ => rfl) (j := i) (p := 3) (x0 := (vs[i]?).getD zeroV) (x' := (vs[i]?).getD zeroV) (vs := [.string d.v.s]) 0 9 (by rfl) rfl rfl rfl rfl (by simp [Value.oneCell']) szStr (unhide SS) rfl (by simp [rowI_len]) (rowI_at1 vs (unhide HLT)) (by simp [VV.cs]) (by rw [unhide HDV]; rfl) (by have := unhide HQ; omega) ?_); intro X8 S8; replace SS := hide S8; clear S8; simp only [Act.put, n1, n2, n3])))
      have S4 := Sy.left (L := [_]) (M := [_]) (unhide SS)
      rw [rowI_keep vs (unhide HLT)] at S4
      clear SS
      have SS := hide S4
      clear S4
      go_wp2
      go_roundg (m - (i + 1))
      case measure => have := unhide HLT; omega
      case rel => exact ⟨i + 1, by go_num, by have := unhide HLT; omega, by omega, SS⟩
    · obtain rfl : i = m := by omega
      clear hlt hil
      go_wp2
      go_ret2
      exact ⟨Bm, rfl, by rw [← rowI_end]; exact own_reads ((unhide SS).get 0 rfl) (rowI_len ..), hBm, (unhide SS).fr.below⟩
end
section
open Go Go.Proofs Go.Maps Go.RowKit FM
attribute [local go_sem] mm_DefineOwnProperty ta_caller
attribute [local go_sem] bits_run run_store_float
theorem nf_mx : nf 4294967295 = 4751297606873776128 := by kernel_rfl
def numC (x : Nat) : List Value := [.int .i64 4, .bool false, .float .f64 x, .string ByteArray.empty, .int .i64 0]
theorem num_agg (x : Nat) : (numV x).agg = .agg (numC x).toArray := rfl
theorem oneN (x : Nat) : ∀ u ∈ numC x, u.oneCell' = true := by simp [numC, Value.oneCell']
theorem num_check (n x : Nat) : checkE n (numV x) = 0 := by
  unfold checkE
  rw [num_good]
  simp [knownE, knownV, numV]
set_option maxRecDepth 100000 in
theorem prim_num (b x : Nat) (hint : Int) (w : World) : Calls Tryz.prog 140 #[.pointer (some ⟨b, 0, none⟩), (numV x).agg, .int .i64 hint] w fun e w' => e = .returned (.tuple #[(numV x).agg, .nilIface]) ∧ Below w.heap.size w w' := by
  have SS := hide (Sy.nil w [])
  rw [num_agg]
  go_enter Tryz.func140, Tryz.ntmps140
  go_wp2_with (first | go_skip | ((with_reducible show wpList _ _ _ _ _ _); first | (refine zB 34 (numC x) (by rfl) rfl rfl rfl SS ?_; clear SS; intro Xa Ba SS; simp only [Act.put, n1, n2, n3]) | (refine zA 34 (zeroV.cs) (by rfl) rfl SS ?_; clear SS; intro Xb Bb SS; simp only [Act.put, n1, n2, n3]) | (refine z1 3 Tryz.isAgg3 0 (by rfl) rfl rfl SS rfl rfl ?_; simp only [Act.put, n1, n2, n3]) | (refine zL (numC x) 34 5 0 rwV szV (by rfl) rfl rfl SS rfl rfl rfl ?_; simp only [Act.put, n1, n2, n3]) | (refine zS ((numV x).cs) 1 34 (by rfl) rfl rfl rfl rfl (oneV _) szV SS rfl ?_; clear SS; intro Xc SS; simp only [Act.put, n1, n2, n3])))
  refine bodyPost_ret (res_ct rwV szV rfl rfl rfl ((unhide SS).hold 1 rfl) rfl) rfl ?_
  exact ⟨rfl, (unhide SS).fr.below⟩
set_option maxRecDepth 100000 in
theorem numeral_num (x : Nat) (w : World) : Calls Tryz.prog 141 #[(numV x).agg] w fun e w' => e = .returned (.tuple #[.float .f64 x, .nilIface]) ∧ Below w.heap.size w w' := by
  have SS := hide (Sy.nil w [])
  rw [num_agg]
  go_enter Tryz.func141, Tryz.ntmps141
  go_wp2_with (first | go_skip | ((with_reducible show wpList _ _ _ _ _ _); first | (refine zB 34 (numC x) (by rfl) rfl rfl rfl SS ?_; clear SS; intro Xa Ba SS; simp only [Act.put, n1, n2, n3]) | (refine z1 3 Tryz.isAgg3 0 (by rfl) rfl rfl SS rfl rfl ?_; simp only [Act.put, n1, n2, n3]) | (refine z1 32 Tryz.isAgg32 0 (by rfl) rfl rfl SS rfl rfl ?_; simp only [Act.put, n1, n2, n3])))
  go_ret2
  exact ⟨rfl, (unhide SS).fr.below⟩
set_option maxRecDepth 100000 in
theorem number_num (h : HP) (x : Nat) (w : World) (H : h.Is w) (hT : Tabs w) : Calls Tryz.prog 133 #[.pointer (some ⟨h.b, 0, none⟩), (numV x).agg] w fun e w' => e = .returned (.tuple #[.float .f64 x, .nilIface]) ∧ Below w.heap.size w w' := by
  have SS := hide (Sy.nil w [])
  have HH := hide H
  clear H
  have HT := hide hT
  clear hT
  rw [num_agg]
  go_enter Tryz.func133, Tryz.ntmps133
  go_wp2_with (first | go_skip | ((with_reducible show wpList _ _ _ _ _ _); first | (refine zB 34 (numC x) (by rfl) rfl rfl rfl SS ?_; clear SS; intro Xa Ba SS; simp only [Act.put, n1, n2, n3]) | (refine zL (numC x) 34 5 0 rwV szV (by rfl) rfl rfl SS rfl rfl rfl ?_; simp only [Act.put, n1, n2, n3])))
  have HO := check_h h (numV x) _ ((unhide HH).on (unhide SS).fr.below) ((unhide HT).on (unhide SS).fr.below).1
  rw [num_check, num_agg] at HO
  refine HO.mono ?_
  clear HO
  rintro _ Y1 ⟨rfl, hb⟩
  replace SS := hide ((unhide SS).on hb)
  clear hb
  go_wp2_with (first | go_skip | ((with_reducible show wpList _ _ _ _ _ _); first | (refine zL (numC x) 34 5 0 rwV szV (by rfl) rfl rfl SS rfl rfl rfl ?_; simp only [Act.put, n1, n2, n3])))
  have HO := fun X => prim_num h.b x 2 X
  simp only [num_agg] at HO
  refine (HO _).mono ?_
  clear HO
  rintro _ Y2 ⟨rfl, hb⟩
  replace SS := hide ((unhide SS).on hb)
  clear hb
  go_wp2_with (first | go_skip | ((with_reducible show wpList _ _ _ _ _ _); first | (refine zA 34 (zeroV.cs) (by rfl) rfl SS ?_; clear SS; intro Xb Bb SS; simp only [Act.put, n1, n2, n3]) | (refine zS ((numV x).cs) 1 34 (by rfl) rfl rfl rfl rfl (oneV _) szV SS rfl ?_; clear SS; intro Xc SS; simp only [Act.put, n1, n2, n3]) | (refine zL (numC x) 34 5 1 rwV szV (by rfl) rfl rfl SS rfl rfl rfl ?_; simp only [Act.put, n1, n2, n3])))
  have HO := fun X => numeral_num x X
  simp only [num_agg] at HO
  refine (HO _).mono ?_
  clear HO
  rintro _ Y3 ⟨rfl, hb⟩
  replace SS := hide ((unhide SS).on hb)
  clear hb
  go_wp2
  go_ret2
  exact ⟨rfl, (unhide SS).fr.below⟩
theorem frombits_run (n : Int) (w : World) : (callFunc 177 #[.int .u64 n]).run Tryz.prog w = .ok (.value (.float .f64 n.toNat)) w := by
  rw [run_callFunc_extern Tryz.func177 (by kernel_rfl) (by kernel_rfl) (by kernel_rfl) (e := Extern.MathFloatBits.float64frombits) (by kernel_rfl)]; rfl
attribute [local go_sem] frombits_run
theorem ex_neF {o : Oper} {a : Act} {w : World} {x y : Operand} (ho : o.op = .binOp .neq 32 x y 32) (hx : a.eval x = .float .f64 4751297606873776128) (hy : a.eval y = .float .f64 4751297606873776128) : (execOp a.eval o).run Tryz.prog w = .ok (.value (.bool false)) w := by
  unfold execOp
  simp only [ho, hx, hy]
  kernel_rfl
theorem ex_gtF {o : Oper} {a : Act} {w : World} {x : Operand} (ho : o.op = .binOp .gtr 32 x (.const (.float .f64 9218868437227405311)) 32) (hx : a.eval x = .float .f64 4751297606873776128) : (execOp a.eval o).run Tryz.prog w = .ok (.value (.bool false)) w := by
  unfold execOp
  simp only [ho, hx]
  kernel_rfl
theorem ex_ltF {o : Oper} {a : Act} {w : World} {x : Operand} (ho : o.op = .binOp .lss 32 x (.const (.float .f64 0)) 32) (hx : a.eval x = .float .f64 4751297606873776128) : (execOp a.eval o).run Tryz.prog w = .ok (.value (.bool false)) w := by
  unfold execOp
  simp only [ho, hx]
  kernel_rfl
set_option maxRecDepth 100000 in
theorem split_mx (w : World) : Calls Tryz.prog 148 #[.float .f64 4751297606873776128] w fun e w' => e = .returned (.tuple #[.int .u64 9007199252643840, .int .i64 (-21)]) ∧ w' = w := by
  have a1 : bits BinOp.and IntKind.u64 4751297606873776128 4503599627370495 = 4503599625273344 := by kernel_rfl
  have a2 : bits BinOp.and IntKind.u64 1054 2047 = 1054 := by kernel_rfl
  have a3 : bits BinOp.or IntKind.u64 4503599625273344 4503599627370496 = 9007199252643840 := by kernel_rfl
  go_enter Tryz.func148, Tryz.ntmps148
  go_wp2
  go_ret2
  exact ⟨rfl, rfl⟩
set_option maxRecDepth 100000 in
theorem low_mx (w : World) : Calls Tryz.prog 147 #[.int .u64 9007199252643840, .int .i64 (-21)] w fun e w' => e = .returned (.int .u32 4294967295) ∧ w' = w := by
  go_enter Tryz.func147, Tryz.ntmps147
  go_wp2
  go_ret
  exact ⟨rfl, rfl⟩
set_option maxRecDepth 100000 in
theorem abs_mx (w : World) : Calls Tryz.prog 182 #[.float .f64 4751297606873776128] w fun e w' => e = .returned (.float .f64 4751297606873776128) ∧ w' = w := by
  have a1 : bits BinOp.andNot IntKind.u64 4751297606873776128 9223372036854775808 = 4751297606873776128 := by kernel_rfl
  go_enter Tryz.func182, Tryz.ntmps182
  go_wp2
  go_ret
  exact ⟨rfl, rfl⟩
set_option maxRecDepth 100000 in
theorem isinf_mx (w : World) : Calls Tryz.prog 164 #[.float .f64 4751297606873776128, .int .i64 0] w fun e w' => e = .returned (.bool false) ∧ w' = w := by
  go_enter Tryz.func164, Tryz.ntmps164
  go_wp2_with fail
  refine (abs_mx _).mono ?_
  rintro _ _ ⟨rfl, rfl⟩
  go_wp2_with (first | go_skip | ((with_reducible show wpList _ _ _ _ _ _); first | (refine rd (by rfl) (ex_gtF rfl rfl) ?_; simp only [Act.put, n1, n2, n3])))
  go_ret
  exact ⟨rfl, rfl⟩
set_option maxRecDepth 100000 in
theorem fin_mx (w : World) : Calls Tryz.prog 146 #[.float .f64 4751297606873776128] w fun e w' => e = .returned (.bool true) ∧ w' = w := by
  have hn : isN 4751297606873776128 = false := by kernel_rfl
  go_enter Tryz.func146, Tryz.ntmps146
  go_wp2_with fail
  have HI := isnan_any 4751297606873776128 w
  rw [hn] at HI
  refine HI.mono ?_
  rintro _ _ ⟨rfl, rfl⟩
  go_wp2_with fail
  refine (isinf_mx _).mono ?_
  rintro _ _ ⟨rfl, rfl⟩
  go_wp2
  go_ret
  exact ⟨rfl, rfl⟩
set_option maxRecDepth 100000 in
theorem u32_mx (w : World) : Calls Tryz.prog 139 #[.float .f64 4751297606873776128] w fun e w' => e = .returned (.int .u32 4294967295) ∧ w' = w := by
  go_enter Tryz.func139, Tryz.ntmps139
  go_wp2_with fail
  refine (fin_mx _).mono ?_
  rintro _ _ ⟨rfl, rfl⟩
  go_wp2_with fail
  refine (split_mx _).mono ?_
  rintro _ _ ⟨rfl, rfl⟩
  go_wp2_with fail
  refine (low_mx _).mono ?_
  rintro _ _ ⟨rfl, rfl⟩
  go_wp2_with (first | go_skip | ((with_reducible show wpList _ _ _ _ _ _); first | (refine rd (by rfl) (ex_ltF rfl rfl) ?_; simp only [Act.put, n1, n2, n3])))
  go_ret
  exact ⟨rfl, rfl⟩
