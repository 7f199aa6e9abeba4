import Derived.Test.YthilnaeomkppaaaGreatFmtRp
set_option linter.all false
namespace Go.Proofs.YthilnaeomkppaaaGreatFmt
set_option maxHeartbeats 1000000
section
open Go Go.Proofs Go.Maps Go.RowKit FM
attribute [local go_sem] mm_DefineOwnProperty ta_caller
theorem new_155 (w : World) (h6 : 6 ≤ w.heap.size) : Calls Tryz.prog 4 #[.int .i64 1, .int .i64 5, .int .i64 5] w fun e w' => ∃ B, e = .returned (.tuple #[.pointer (some ⟨B, 0, none⟩), .int .i64 0]) ∧ (newHP B 1 5 5).Is w' ∧ w.heap.size ≤ B ∧ Below w.heap.size w w' := by
  refine (new_h 1 5 5 w h6).mono ?_
  intro e X hN
  rcases hN with ⟨h0, _⟩ | ⟨_, h⟩
  · exact absurd h0 (by decide)
  · exact h
theorem new_sy {w X : World} {B : Nat} (hI : (newHP B 1 5 5).Is X) (hB : w.heap.size ≤ B) (hb : Below w.heap.size w X) : Sy w X [] [hpO (newHP B 1 5 5)] :=
  (Sy.nil w []).add (hpO_ok _) hI hb (fun b h => by
    have : b = B := by simpa [hpO, new_blocks] using h
    omega)
theorem rd_heap {w X Y : World} {h : HP} {L : List Ob} {B : Option Addr} {vs : List VV} (S : Sy w X [] (hpO h :: L)) (hR : ReadsV w B vs) (k : Fr X Y h.blocks) : ReadsV Y B vs := hR.fr2 (S.fr.trans k (fun b hb => S.lo _ (List.mem_cons_self ..) b hb)) (by simp)
theorem ReadsV.on {X Y : World} {B : Option Addr} {vs : List VV} (h : ReadsV X B vs) (k : Below X.heap.size X Y) : ReadsV Y B vs := h.fr2 (Fr.of_below k []) (by simp)
theorem ReadsV.drew {X : World} {B : Option Addr} {vs : List VV} (h : ReadsV X B vs) : ReadsV X.drew B vs := h.on ⟨rfl, rfl, rfl, Nat.le_refl _, fun _ _ => rfl⟩
theorem take_out {X : World} {A : Option Addr} {vs : List VV} {mo m0 : Nat} (h : ReadsV X A (outV vs mo)) (hm : min mo vs.length = m0) : ReadsV X A (vs.take m0) := by
  have h3 := h.take m0
  have h4 := outV_take vs mo
  rw [hm] at h4
  rw [h4] at h3
  exact h3
theorem ex_gt3 {o : Oper} {a : Act} {w : World} {x y : Operand} {n m : Int} {r : Bool} (ho : o.op = .binOp .gtr 3 x y 3) (hx : a.eval x = .int .i64 n) (hc : a.eval y = .int .i64 m) (h : decide (m < n) = r) : (execOp a.eval o).run Tryz.prog w = .ok (.value (.bool r)) w := by
  unfold execOp
  simp only [ho, hx, hc]
  simp [go_sem, eqGuard, h]
theorem ex_lt3 {o : Oper} {a : Act} {w : World} {x y : Operand} {n m : Int} {r : Bool} (ho : o.op = .binOp .lss 3 x y 3) (hx : a.eval x = .int .i64 n) (hc : a.eval y = .int .i64 m) (h : decide (n < m) = r) : (execOp a.eval o).run Tryz.prog w = .ok (.value (.bool r)) w := by
  unfold execOp
  simp only [ho, hx, hc]
  simp [go_sem, eqGuard, h]
theorem ex_bnull {o : Oper} {a : Act} {w : World} (ho : o.op = .build 34 #[(0, .const (.int .i64 2))]) : (execOp a.eval o).run Tryz.prog w = .ok (.value (.agg nullV.cs.toArray)) w := by
  have e : (Instr.build 34 #[(0, .int .i64 2)]).run Tryz.prog w = .ok (.agg nullV.cs.toArray) w := by kernel_rfl
  have h0 : a.eval (.const (.int .i64 2)) = .int .i64 2 := rfl
  unfold execOp
  simp only [ho, List.map_toArray, List.map_cons, List.map_nil, h0]
  simp [e]
theorem ex_bmax {o : Oper} {a : Act} {w : World} {x : Operand} (ho : o.op = .build 47 #[(0, x)]) (hx : a.eval x = .agg (numC 4751297606873776128).toArray) : (execOp a.eval o).run Tryz.prog w = .ok (.value (.agg maxC.toArray)) w := by
  have e : (Instr.build 47 #[(0, .agg (numC 4751297606873776128).toArray)]).run Tryz.prog w = .ok (.agg maxC.toArray) w := by kernel_rfl
  unfold execOp
  simp only [ho, List.map_toArray, List.map_cons, List.map_nil, hx]
  simp [e]
theorem outV_eq {vs : List VV} {m : Nat} (h : m ≤ vs.length) : outV vs m = vs.take m := by
  have h1 := outV_take vs m
  rw [Nat.min_eq_left h, List.take_of_length_le (by rw [outV_len]; omega)] at h1
  exact h1
theorem kn_str {n : Nat} {vs : List VV} (h : knE n vs = 0) (i : Nat) : ((vs[i]?).getD zeroV).s.size ≤ 1048576 := by
  rcases Nat.lt_or_ge i vs.length with hl | hl
  · rw [List.getElem?_eq_getElem hl]
    exact good_str (kn_zero h (List.getElem?_eq_getElem hl))
  · rw [List.getElem?_eq_none hl]
    decide
theorem of_good1 (B0 : Nat) (B : Option Addr) (c : Nat) (vs : List VV) (w : World) (H : (newHP B0 1 5 5).Is w) (hT : Tabs w) (HRV : ∀ {X : World}, Fr w X (newHP B0 1 5 5).blocks → ReadsV X B vs) (hz2 : vs.length ≤ 2000) (hX64 : ∀ (i : Nat) (v : VV), vs[i]? = some v → v.x < 2 ^ 64) (hc : knE 0 vs = 0) : Calls Tryz.prog 6 #[.pointer (some ⟨B0, 0, none⟩), nullV.agg, .slice B vs.length c] w fun e w' => ∃ (gv : Value) (q : OB), e = .returned (.tuple #[.int .i64 1, .nilIface]) ∧ q.c = 3 ∧ q.x = true ∧ pr q.T = arrL vs.length vs ∧ q.T.last ≤ 1 + vs.length ∧ (newHP B0 1 5 5).To ((newHP B0 1 5 5).more gv q) w w' := by
  have hroom : orE [checkE (newHP B0 1 5 5).l.length nullV, protoE nullV, roomE (newHP B0 1 5 5)] = 0 := by
    rw [null_check]
    simp [protoE, nullV, roomE, newHP, orE]
  refine (of_good (newHP B0 1 5 5) B c vs w H hT HRV hz2 hX64 (Nat.zero_le _) hroom hc).mono ?_
  rintro _ Y ⟨gv, q, rfl, a1, a2, a3, a4, T1⟩
  exact ⟨gv, q, rfl, a1, a2, a3, a4, T1⟩
theorem more_ok (B0 : Nat) (gv : Value) (q : OB) : ((newHP B0 1 5 5).more gv q).Ok := by
  constructor <;> simp [HP.more, newHP]
theorem min_len {mo n : Nat} : (if (mo : Int) < (n : Int) then (mo : Int) else (n : Int)) = ((min mo n : Nat) : Int) := by
  split <;> omega
theorem min_len2 {mo n : Nat} : (if (n : Int) < (mo : Int) then (n : Int) else (mo : Int)) = ((min mo n : Nat) : Int) := by
  split <;> omega
set_option maxRecDepth 100000 in
theorem most_long (B : Option Addr) (c : Nat) (vs : List VV) (most : Int) (w : World) (h6 : 6 ≤ w.heap.size) (hT : Tabs w) (hR : ReadsV w B vs) (hX64 : ∀ (i : Nat) (v : VV), vs[i]? = some v → v.x < 2 ^ 64) (hz : 2000 < vs.length) : Calls Tryz.prog 3 #[.slice B vs.length c, .int .i64 most] w fun e w' => e = .returned (.bool true) ∧ Below w.heap.size w w' := by
  have hgt : decide ((2000 : Int) < (vs.length : Int)) = true := decide_eq_true (by omega)
  have SS := hide (Sy.nil w [])
  have HR := hide hR
  have HT := hide hT
  have HX := hide hX64
  clear hR hT hX64
  go_enter Tryz.func3, Tryz.ntmps3
  go_wp2_with fail
  refine (new_155 _ h6).mono ?_
  rintro _ X1 ⟨B0, rfl, hI, hB0, hb⟩
  replace SS := hide (new_sy hI hB0 hb)
  clear hI hb hB0
  go_wp2_with fail
  refine (lnum 0 _).mono ?_
  rintro _ _ ⟨rfl, rfl⟩
  go_wp2_with fail
  refine (lnum 0 _).mono ?_
  rintro _ _ ⟨rfl, rfl⟩
  go_wp2_with (first | go_skip | ((with_reducible show wpList _ _ _ _ _ _); first | (refine rd (by rfl) (ex_lenG 22 34 Tryz.underlying22 rfl rfl) ?_; simp only [Act.put, n1, n2, n3]) | (refine rd (by rfl) (ex_gt3 rfl rfl rfl hgt) ?_; simp only [Act.put, n1, n2, n3])))
  refine (lnum 0 _).mono ?_
  rintro _ _ ⟨rfl, rfl⟩
  go_wp2
  go_ret
  exact ⟨rfl, (unhide SS).fr.below⟩
set_option maxRecDepth 100000 in
theorem most_bad (B : Option Addr) (c : Nat) (vs : List VV) (most : Int) (w : World) (h6 : 6 ≤ w.heap.size) (hT : Tabs w) (hR : ReadsV w B vs) (hX64 : ∀ (i : Nat) (v : VV), vs[i]? = some v → v.x < 2 ^ 64) (hz : vs.length ≤ 2000) (hc : knE 0 vs ≠ 0) : Calls Tryz.prog 3 #[.slice B vs.length c, .int .i64 most] w fun e w' => e = .returned (.bool true) ∧ Below w.heap.size w w' := by
  have hgt : decide ((2000 : Int) < (vs.length : Int)) = false := decide_eq_false (by omega)
  have SS := hide (Sy.nil w [])
  have HR := hide hR
  have HT := hide hT
  have HX := hide hX64
  clear hR hT hX64
  go_enter Tryz.func3, Tryz.ntmps3
  go_wp2_with fail
  refine (new_155 _ h6).mono ?_
  rintro _ X1 ⟨B0, rfl, hI, hB0, hb⟩
  replace SS := hide (new_sy hI hB0 hb)
  clear hI hb hB0
  go_wp2_with fail
  refine (lnum 0 _).mono ?_
  rintro _ _ ⟨rfl, rfl⟩
  go_wp2_with fail
  refine (lnum 0 _).mono ?_
  rintro _ _ ⟨rfl, rfl⟩
  go_wp2_with (first | go_skip | ((with_reducible show wpList _ _ _ _ _ _); first | (refine rd (by rfl) (ex_lenG 22 34 Tryz.underlying22 rfl rfl) ?_; simp only [Act.put, n1, n2, n3]) | (refine rd (by rfl) (ex_gt3 rfl rfl rfl hgt) ?_; simp only [Act.put, n1, n2, n3]) | (refine rd (by rfl) (ex_bnull rfl) ?_; simp only [Act.put, n1, n2, n3])))
  have HC := of_bad (newHP B0 1 5 5) B c vs _ ((unhide SS).hp 0 rfl) ((unhide HT).fr (unhide SS).fr (by simp)) (fun k => rd_heap (unhide SS) (unhide HR) k) (by omega) hc
  rw [show nullV.agg = .agg nullV.cs.toArray from rfl] at HC
  refine HC.mono ?_
  clear HC
  rintro _ Y ⟨rfl, T1⟩
  replace SS := hide ((unhide SS).heap 0 rfl T1)
  clear T1
  generalize knE (newHP B0 1 5 5).l.length vs = z
  unfold ePair
  go_wp2_with fail
  have HV := values_no (newHP B0 1 5 5) 1 most _ ((unhide SS).hp 0 rfl) rfl
  refine HV.mono ?_
  clear HV
  rintro _ Y ⟨rfl, hb⟩
  replace SS := hide ((unhide SS).on hb)
  clear hb
  go_wp2_with fail
  have HV := values_no (newHP B0 1 5 5) 2 most _ ((unhide SS).hp 0 rfl) rfl
  refine HV.mono ?_
  clear HV
  rintro _ Y ⟨rfl, hb⟩
  replace SS := hide ((unhide SS).on hb)
  clear hb
  go_wp2_with fail
  refine (lnum 4 _).mono ?_
  rintro _ _ ⟨rfl, rfl⟩
  go_wp2_with fail
  refine (lnum 4 _).mono ?_
  rintro _ _ ⟨rfl, rfl⟩
  go_wp2_with (first | go_skip | ((with_reducible show wpList _ _ _ _ _ _); first | (refine rd (by rfl) (ex_lenG 22 34 Tryz.underlying22 rfl rfl) ?_; simp only [Act.put, n1, n2, n3])))
  go_ret
  exact ⟨rfl, (unhide SS).fr.below⟩
set_option maxRecDepth 100000 in
theorem most_neg (B : Option Addr) (c : Nat) (vs : List VV) (most : Int) (w : World) (h6 : 6 ≤ w.heap.size) (hT : Tabs w) (hR : ReadsV w B vs) (hX64 : ∀ (i : Nat) (v : VV), vs[i]? = some v → v.x < 2 ^ 64) (hz : vs.length ≤ 2000) (hc : knE 0 vs = 0) (hm : most < 0) : Calls Tryz.prog 3 #[.slice B vs.length c, .int .i64 most] w fun e w' => e = .returned (.bool true) ∧ Below w.heap.size w w' := by
  have hlt : decide (most < 0) = true := decide_eq_true hm
  have hgt : decide ((2000 : Int) < (vs.length : Int)) = false := decide_eq_false (by omega)
  have SS := hide (Sy.nil w [])
  have HR := hide hR
  have HT := hide hT
  have HX := hide hX64
  clear hR hT hX64
  go_enter Tryz.func3, Tryz.ntmps3
  go_wp2_with fail
  refine (new_155 _ h6).mono ?_
  rintro _ X1 ⟨B0, rfl, hI, hB0, hb⟩
  replace SS := hide (new_sy hI hB0 hb)
  clear hI hb hB0
  go_wp2_with fail
  refine (lnum 0 _).mono ?_
  rintro _ _ ⟨rfl, rfl⟩
  go_wp2_with fail
  refine (lnum 0 _).mono ?_
  rintro _ _ ⟨rfl, rfl⟩
  go_wp2_with (first | go_skip | ((with_reducible show wpList _ _ _ _ _ _); first | (refine rd (by rfl) (ex_lenG 22 34 Tryz.underlying22 rfl rfl) ?_; simp only [Act.put, n1, n2, n3]) | (refine rd (by rfl) (ex_gt3 rfl rfl rfl hgt) ?_; simp only [Act.put, n1, n2, n3]) | (refine rd (by rfl) (ex_bnull rfl) ?_; simp only [Act.put, n1, n2, n3])))
  have HC := of_good1 B0 B c vs _ ((unhide SS).hp 0 rfl) ((unhide HT).fr (unhide SS).fr (by simp)) (fun k => rd_heap (unhide SS) (unhide HR) k) hz (unhide HX) hc
  rw [show nullV.agg = .agg nullV.cs.toArray from rfl] at HC
  refine HC.mono ?_
  clear HC
  rintro _ Y ⟨gv, q, rfl, a1, a2, a3, a4, T1⟩
  replace SS := hide ((unhide SS).heap 0 rfl T1)
  clear T1
  have hn0 : vs.length ≤ 2000 ∨ vs.length = 4294967295 := .inl hz
  go_wp2_with fail
  have HV := values_neg ((newHP B0 1 5 5).more gv q) 0 q vs.length vs most _ ((unhide SS).hp 0 rfl) (by show 1 ≤ 65536; omega) rfl a1 a3 hn0 hm
  refine HV.mono ?_
  clear HV
  rintro _ Y ⟨rfl, hb⟩
  replace SS := hide ((unhide SS).on hb)
  clear hb
  go_wp2_with fail
  have HV := values_no ((newHP B0 1 5 5).more gv q) 2 most _ ((unhide SS).hp 0 rfl) rfl
  refine HV.mono ?_
  clear HV
  rintro _ Y ⟨rfl, hb⟩
  replace SS := hide ((unhide SS).on hb)
  clear hb
  go_wp2_with fail
  refine (lnum 4 _).mono ?_
  rintro _ _ ⟨rfl, rfl⟩
  go_wp2_with (first | go_skip | ((with_reducible show wpList _ _ _ _ _ _); first | (refine rd (by rfl) (ex_lt3 rfl rfl rfl hlt) ?_; simp only [Act.put, n1, n2, n3])))
  refine (lnum 7 _).mono ?_
  rintro _ _ ⟨rfl, rfl⟩
  go_wp2_with (first | go_skip | ((with_reducible show wpList _ _ _ _ _ _); first | (refine rd (by rfl) (ex_lenG 22 34 Tryz.underlying22 rfl rfl) ?_; simp only [Act.put, n1, n2, n3])))
  go_ret
  exact ⟨rfl, (unhide SS).fr.below⟩
set_option maxRecDepth 100000 in
set_option maxHeartbeats 2000000 in
theorem most_far (B : Option Addr) (c : Nat) (vs : List VV) (most : Int) (w : World) (h6 : 6 ≤ w.heap.size) (hT : Tabs w) (hR : ReadsV w B vs) (hX64 : ∀ (i : Nat) (v : VV), vs[i]? = some v → v.x < 2 ^ 64) (hz : vs.length ≤ 2000) (hcap : vs.length ≤ c) (hc : knE 0 vs = 0) (hm : 0 ≤ most) (hm65 : 65536 < most) : Calls Tryz.prog 3 #[.slice B vs.length c, .int .i64 most] w fun e w' => e = .returned (.bool true) ∧ Below w.heap.size w w' := by
  obtain ⟨mo, rfl⟩ := Int.eq_ofNat_of_zero_le hm
  have hlt : decide ((mo : Int) < 0) = false := decide_eq_false (by omega)
  obtain ⟨m0, hm0⟩ : ∃ m0, min mo vs.length = m0 := ⟨_, rfl⟩
  have hmin := @min_len mo vs.length
  have hmin2 := @min_len2 mo vs.length
  rw [hm0] at hmin hmin2
  have hm0c : m0 ≤ c := by omega
  have hm0v : m0 ≤ vs.length := by omega
  have hm0o : m0 ≤ mo := by omega
  have HM0 := hide hm0
  clear hm0
  have hgt2 : decide ((65536 : Int) < (mo : Int)) = true := decide_eq_true hm65
  have hgt : decide ((2000 : Int) < (vs.length : Int)) = false := decide_eq_false (by omega)
  have SS := hide (Sy.nil w [])
  have HR := hide hR
  have HT := hide hT
  have HX := hide hX64
  clear hR hT hX64
  go_enter Tryz.func3, Tryz.ntmps3
  go_wp2_with fail
  refine (new_155 _ h6).mono ?_
  rintro _ X1 ⟨B0, rfl, hI, hB0, hb⟩
  replace SS := hide (new_sy hI hB0 hb)
  clear hI hb hB0
  go_wp2_with fail
  refine (lnum 0 _).mono ?_
  rintro _ _ ⟨rfl, rfl⟩
  go_wp2_with fail
  refine (lnum 0 _).mono ?_
  rintro _ _ ⟨rfl, rfl⟩
  go_wp2_with (first | go_skip | ((with_reducible show wpList _ _ _ _ _ _); first | (refine rd (by rfl) (ex_lenG 22 34 Tryz.underlying22 rfl rfl) ?_; simp only [Act.put, n1, n2, n3]) | (refine rd (by rfl) (ex_gt3 rfl rfl rfl hgt) ?_; simp only [Act.put, n1, n2, n3]) | (refine rd (by rfl) (ex_bnull rfl) ?_; simp only [Act.put, n1, n2, n3])))
  have HC := of_good1 B0 B c vs _ ((unhide SS).hp 0 rfl) ((unhide HT).fr (unhide SS).fr (by simp)) (fun k => rd_heap (unhide SS) (unhide HR) k) hz (unhide HX) hc
  rw [show nullV.agg = .agg nullV.cs.toArray from rfl] at HC
  refine HC.mono ?_
  clear HC
  rintro _ Y ⟨gv, q, rfl, a1, a2, a3, a4, T1⟩
  replace SS := hide ((unhide SS).heap 0 rfl T1)
  clear T1
  have hn0 : vs.length ≤ 2000 ∨ vs.length = 4294967295 := .inl hz
  go_wp2_with fail
  have HV := values_ok ((newHP B0 1 5 5).more gv q) 0 q vs.length vs (mo : Int) _ ((unhide SS).hp 0 rfl) (by show 1 ≤ 65536; omega) (rfl) a1 a3 hn0 ((unhide HT).fr (unhide SS).fr (by simp)) (kn_str hc) (by omega) m0 hmin (by omega)
  refine HV.mono ?_
  clear HV
  rintro _ Y1 ⟨B1, rfl, hr1, hB1, hb⟩
  replace SS := hide ((unhide SS).on hb)
  have HR1 := hide hr1
  clear hb hr1 hB1
  go_wp2_with fail
  have HV := values_no ((newHP B0 1 5 5).more gv q) 2 (mo : Int) _ ((unhide SS).hp 0 rfl) rfl
  refine HV.mono ?_
  clear HV
  rintro _ Y ⟨rfl, hb⟩
  replace SS := hide ((unhide SS).on hb)
  replace HR1 := hide ((unhide HR1).on hb)
  clear hb
  go_wp2_with fail
  refine (lnum 4 _).mono ?_
  rintro _ _ ⟨rfl, rfl⟩
  go_wp2_with (first | go_skip | ((with_reducible show wpList _ _ _ _ _ _); first | (refine rd (by rfl) (ex_lt3 rfl rfl rfl hlt) ?_; simp only [Act.put, n1, n2, n3])))
  refine (lnum 0 _).mono ?_
  rintro _ _ ⟨rfl, rfl⟩
  go_wp2_with fail
  have HF : Calls Tryz.prog 8 #[.pointer (some ⟨B0, 0, none⟩)] _ fun e w' => e = .returned (.int .i64 5) ∧ w' = _ := fuel_h ((newHP B0 1 5 5).more gv q) _ ((unhide SS).hp 0 rfl)
  refine HF.mono ?_
  clear HF
  rintro _ _ ⟨rfl, rfl⟩
  go_wp2_with (first | go_skip | ((with_reducible show wpList _ _ _ _ _ _); first | (refine rd (by rfl) (ex_lenG 22 34 Tryz.underlying22 rfl rfl) ?_; simp only [Act.put, n1, n2, n3]) | (refine rd (by rfl) (ex_min rfl rfl rfl hmin2) ?_; simp only [Act.put, n1, n2, n3]) | (refine rd (by rfl) (ex_sliceV rfl rfl rfl hm0c) ?_; simp only [Act.put, n1, n2, n3])))
  have HE := lsame (some ⟨B1, 0, none⟩) B m0 c m0 (vs.take m0) (by rw [List.length_take]; omega) _ (by have := unhide HR1; rw [outV_eq hm0v] at this; exact this) (((unhide HR).fr2 (unhide SS).fr (by simp)).take m0) (by omega)
  refine HE.mono ?_
  clear HE
  rintro _ Y ⟨rfl, hb⟩
  replace SS := hide ((unhide SS).on hb)
  clear hb HR1
  go_wp2_with fail
  refine (lstr _).mono ?_
  rintro _ Y ⟨rfl, hb⟩
  replace SS := hide ((unhide SS).on hb)
  clear hb
  go_wp2_with fail
  have HN_ := fun X => lNum 4751297606873776128 X
  simp only [num_agg] at HN_
  refine (HN_ _).mono ?_
  clear HN_
  rintro _ Y ⟨rfl, hb⟩
  replace SS := hide ((unhide SS).on hb)
  clear hb
  go_wp2_with (first | go_skip | ((with_reducible show wpList _ _ _ _ _ _); first | (refine rd (by rfl) (ex_bmax rfl rfl) ?_; simp only [Act.put, n1, n2, n3])))
  have HD := ddef_mx ((newHP B0 1 5 5).more gv q) 0 q vs.length vs _ ((unhide SS).hp 0 rfl) ((unhide HT).fr (unhide SS).fr (by simp)) (more_ok B0 gv q) rfl a3 hn0 (by omega) (by show (5 : Int) ≠ 0; decide) (by show (0 : Int) ≠ 5; decide)
  rw [max_agg] at HD
  refine HD.mono ?_
  clear HD
  rintro _ Y ⟨h2, T', rfl, hl2, hpr, T1⟩
  have hb2 : h2.b = B0 := T1.hb
  replace SS := hide ((unhide SS).heap 0 rfl T1)
  clear T1
  go_wp2_with fail
  have HV := values_long h2 0 { q with T := T' } 4294967295 vs (mo : Int) _ ((unhide SS).hp 0 rfl) (by rw [hl2]; show 1 ≤ 65536; omega) (by rw [hl2]; rfl) a1 hpr (.inr rfl) (by omega) hm65 (by omega)
  rw [hb2] at HV
  refine HV.mono ?_
  clear HV
  rintro _ Y ⟨rfl, hb⟩
  replace SS := hide ((unhide SS).on hb)
  clear hb
  go_wp2_with (first | go_skip | ((with_reducible show wpList _ _ _ _ _ _); first | (refine rd (by rfl) (ex_gt3 rfl rfl rfl hgt2) ?_; simp only [Act.put, n1, n2, n3]) | (refine rd (by rfl) (ex_lenG 22 34 Tryz.underlying22 rfl rfl) ?_; simp only [Act.put, n1, n2, n3])))
  refine (lnum 6 _).mono ?_
  rintro _ _ ⟨rfl, rfl⟩
  go_wp2
  go_ret
  exact ⟨rfl, (unhide SS).fr.below⟩
set_option maxRecDepth 100000 in
set_option maxHeartbeats 2000000 in
theorem most_near (B : Option Addr) (c : Nat) (vs : List VV) (most : Int) (w : World) (h6 : 6 ≤ w.heap.size) (hT : Tabs w) (hR : ReadsV w B vs) (hX64 : ∀ (i : Nat) (v : VV), vs[i]? = some v → v.x < 2 ^ 64) (hz : vs.length ≤ 2000) (hcap : vs.length ≤ c) (hc : knE 0 vs = 0) (hm : 0 ≤ most) (hm65 : most ≤ 65536) : Calls Tryz.prog 3 #[.slice B vs.length c, .int .i64 most] w fun e w' => e = .returned (.bool true) ∧ Below w.heap.size w w' := by
  obtain ⟨mo, rfl⟩ := Int.eq_ofNat_of_zero_le hm
  have hlt : decide ((mo : Int) < 0) = false := decide_eq_false (by omega)
  obtain ⟨m0, hm0⟩ : ∃ m0, min mo vs.length = m0 := ⟨_, rfl⟩
  have hmin := @min_len mo vs.length
  have hmin2 := @min_len2 mo vs.length
  rw [hm0] at hmin hmin2
  have hm0c : m0 ≤ c := by omega
  have hm0v : m0 ≤ vs.length := by omega
  have hm0o : m0 ≤ mo := by omega
  have HM0 := hide hm0
  clear hm0
  have hgt2 : decide ((65536 : Int) < (mo : Int)) = false := decide_eq_false (by omega)
  have hgt : decide ((2000 : Int) < (vs.length : Int)) = false := decide_eq_false (by omega)
  have SS := hide (Sy.nil w [])
  have HR := hide hR
  have HT := hide hT
  have HX := hide hX64
  clear hR hT hX64
  go_enter Tryz.func3, Tryz.ntmps3
  go_wp2_with fail
  refine (new_155 _ h6).mono ?_
  rintro _ X1 ⟨B0, rfl, hI, hB0, hb⟩
  replace SS := hide (new_sy hI hB0 hb)
  clear hI hb hB0
  go_wp2_with fail
  refine (lnum 0 _).mono ?_
  rintro _ _ ⟨rfl, rfl⟩
  go_wp2_with fail
  refine (lnum 0 _).mono ?_
  rintro _ _ ⟨rfl, rfl⟩
  go_wp2_with (first | go_skip | ((with_reducible show wpList _ _ _ _ _ _); first | (refine rd (by rfl) (ex_lenG 22 34 Tryz.underlying22 rfl rfl) ?_; simp only [Act.put, n1, n2, n3]) | (refine rd (by rfl) (ex_gt3 rfl rfl rfl hgt) ?_; simp only [Act.put, n1, n2, n3]) | (refine rd (by rfl) (ex_bnull rfl) ?_; simp only [Act.put, n1, n2, n3])))
  have HC := of_good1 B0 B c vs _ ((unhide SS).hp 0 rfl) ((unhide HT).fr (unhide SS).fr (by simp)) (fun k => rd_heap (unhide SS) (unhide HR) k) hz (unhide HX) hc
  rw [show nullV.agg = .agg nullV.cs.toArray from rfl] at HC
  refine HC.mono ?_
  clear HC
  rintro _ Y ⟨gv, q, rfl, a1, a2, a3, a4, T1⟩
  replace SS := hide ((unhide SS).heap 0 rfl T1)
  clear T1
  have hn0 : vs.length ≤ 2000 ∨ vs.length = 4294967295 := .inl hz
  go_wp2_with fail
  have HV := values_ok ((newHP B0 1 5 5).more gv q) 0 q vs.length vs (mo : Int) _ ((unhide SS).hp 0 rfl) (by show 1 ≤ 65536; omega) (rfl) a1 a3 hn0 ((unhide HT).fr (unhide SS).fr (by simp)) (kn_str hc) (by omega) m0 hmin (by omega)
  refine HV.mono ?_
  clear HV
  rintro _ Y1 ⟨B1, rfl, hr1, hB1, hb⟩
  replace SS := hide ((unhide SS).on hb)
  have HR1 := hide hr1
  clear hb hr1 hB1
  go_wp2_with fail
  have HV := values_no ((newHP B0 1 5 5).more gv q) 2 (mo : Int) _ ((unhide SS).hp 0 rfl) rfl
  refine HV.mono ?_
  clear HV
  rintro _ Y ⟨rfl, hb⟩
  replace SS := hide ((unhide SS).on hb)
  replace HR1 := hide ((unhide HR1).on hb)
  clear hb
  go_wp2_with fail
  refine (lnum 4 _).mono ?_
  rintro _ _ ⟨rfl, rfl⟩
  go_wp2_with (first | go_skip | ((with_reducible show wpList _ _ _ _ _ _); first | (refine rd (by rfl) (ex_lt3 rfl rfl rfl hlt) ?_; simp only [Act.put, n1, n2, n3])))
  refine (lnum 0 _).mono ?_
  rintro _ _ ⟨rfl, rfl⟩
  go_wp2_with fail
  have HF : Calls Tryz.prog 8 #[.pointer (some ⟨B0, 0, none⟩)] _ fun e w' => e = .returned (.int .i64 5) ∧ w' = _ := fuel_h ((newHP B0 1 5 5).more gv q) _ ((unhide SS).hp 0 rfl)
  refine HF.mono ?_
  clear HF
  rintro _ _ ⟨rfl, rfl⟩
  go_wp2_with (first | go_skip | ((with_reducible show wpList _ _ _ _ _ _); first | (refine rd (by rfl) (ex_lenG 22 34 Tryz.underlying22 rfl rfl) ?_; simp only [Act.put, n1, n2, n3]) | (refine rd (by rfl) (ex_min rfl rfl rfl hmin2) ?_; simp only [Act.put, n1, n2, n3]) | (refine rd (by rfl) (ex_sliceV rfl rfl rfl hm0c) ?_; simp only [Act.put, n1, n2, n3])))
  have HE := lsame (some ⟨B1, 0, none⟩) B m0 c m0 (vs.take m0) (by rw [List.length_take]; omega) _ (by have := unhide HR1; rw [outV_eq hm0v] at this; exact this) (((unhide HR).fr2 (unhide SS).fr (by simp)).take m0) (by omega)
  refine HE.mono ?_
  clear HE
  rintro _ Y ⟨rfl, hb⟩
  replace SS := hide ((unhide SS).on hb)
  clear hb HR1
  go_wp2_with fail
  refine (lstr _).mono ?_
  rintro _ Y ⟨rfl, hb⟩
  replace SS := hide ((unhide SS).on hb)
  clear hb
  go_wp2_with fail
  have HN_ := fun X => lNum 4751297606873776128 X
  simp only [num_agg] at HN_
  refine (HN_ _).mono ?_
  clear HN_
  rintro _ Y ⟨rfl, hb⟩
  replace SS := hide ((unhide SS).on hb)
  clear hb
  go_wp2_with (first | go_skip | ((with_reducible show wpList _ _ _ _ _ _); first | (refine rd (by rfl) (ex_bmax rfl rfl) ?_; simp only [Act.put, n1, n2, n3])))
  have HD := ddef_mx ((newHP B0 1 5 5).more gv q) 0 q vs.length vs _ ((unhide SS).hp 0 rfl) ((unhide HT).fr (unhide SS).fr (by simp)) (more_ok B0 gv q) rfl a3 hn0 (by omega) (by show (5 : Int) ≠ 0; decide) (by show (0 : Int) ≠ 5; decide)
  rw [max_agg] at HD
  refine HD.mono ?_
  clear HD
  rintro _ Y ⟨h2, T', rfl, hl2, hpr, T1⟩
  have hb2 : h2.b = B0 := T1.hb
  replace SS := hide ((unhide SS).heap 0 rfl T1)
  clear T1
  go_wp2_with fail
  have HV := values_ok h2 0 { q with T := T' } 4294967295 vs (mo : Int) _ ((unhide SS).hp 0 rfl) (by rw [hl2]; show 1 ≤ 65536; omega) (by rw [hl2]; rfl) a1 hpr (.inr rfl) ((unhide HT).fr (unhide SS).fr (by simp)) (kn_str hc) (by omega) mo (by rw [if_pos (by omega)]) (by omega)
  rw [hb2] at HV
  refine HV.mono ?_
  clear HV
  rintro _ Y2 ⟨B2, rfl, hr2, hB2, hb⟩
  replace SS := hide ((unhide SS).on hb)
  have HR2 := hide hr2
  clear hb hr2 hB2
  go_wp2_with (first | go_skip | ((with_reducible show wpList _ _ _ _ _ _); first | (refine rd (by rfl) (ex_gt3 rfl rfl rfl hgt2) ?_; simp only [Act.put, n1, n2, n3])))
  have hS23 := And.intro (unhide SS).drew (unhide HR2).drew
  clear SS HR2
  refine wp_region_held_drew (P := Tryz.prog) (S := fun X => Sy w X [] [hpO h2] ∧ ReadsV X (some ⟨B2, 0, none⟩) (outV vs mo)) (by kernel_rfl) (hS23) (fun hS0 => ?_)
  refine gp 0 (some 135) (.slice (some ⟨B2, 0, none⟩) mo mo) rfl rfl (hS23) ?_
  simp only [Act.put, n1, n2, n3]
  refine gq 1 (some 136) (.int .i64 (mo : Nat)) rfl rfl (fun X hX => ex_lenG 22 34 Tryz.underlying22 rfl rfl) (hS23) ?_
  simp only [Act.put, n1, n2, n3]
  refine gp 2 (some 137) (.int .i64 (mo : Int)) rfl rfl (hS23) ?_
  simp only [Act.put, n1, n2, n3]
  refine gq 3 (some 138) (.bool true) rfl rfl (fun X hX => ex_eqYes rfl rfl rfl rfl) (hS23) ?_
  simp only [Act.put, n1, n2, n3]
  refine gp 4 (some 139) (.bool true) rfl rfl (hS23) ?_
  simp only [Act.put, n1, n2, n3]
  refine gp 5 (some 140) (.int .i64 0) rfl rfl (hS23) ?_
  simp only [Act.put, n1, n2, n3]
  refine gr (rs := [6]) (gc 6 (some 141) rfl rfl (lnum 0 _) ?_ gn)
  rintro e Yt1 ⟨rfl, rfl⟩
  refine ⟨_, rfl, hS23, ?_⟩
  refine gq 7 (some 142) (.bool true) rfl rfl (fun X hX => ex_eqYes rfl rfl rfl rfl) (hS23) ?_
  simp only [Act.put, n1, n2, n3]
  refine gp 8 (some 143) (.bool true) rfl rfl (hS23) ?_
  simp only [Act.put, n1, n2, n3]
  refine gp 9 (some 144) (.bool true) rfl rfl (hS23) ?_
  simp only [Act.put, n1, n2, n3]
  refine gp 10 (some 145) (.slice (some ⟨B2, 0, none⟩) mo mo) rfl rfl (hS23) ?_
  simp only [Act.put, n1, n2, n3]
  refine gp 11 (some 146) (.int .i64 (mo : Int)) rfl rfl (hS23) ?_
  simp only [Act.put, n1, n2, n3]
  refine gp 12 (some 147) (.slice B vs.length c) rfl rfl (hS23) ?_
  simp only [Act.put, n1, n2, n3]
  refine gq 13 (some 148) (.int .i64 (vs.length : Nat)) rfl rfl (fun X hX => ex_lenG 22 34 Tryz.underlying22 rfl rfl) (hS23) ?_
  simp only [Act.put, n1, n2, n3]
  refine gq 14 (some 149) (.int .i64 (m0 : Nat)) rfl rfl (fun X hX => ex_min rfl rfl rfl hmin2) (hS23) ?_
  simp only [Act.put, n1, n2, n3]
  refine gq 15 (some 150) (.slice (some ⟨B2, 0, none⟩) m0 mo) rfl rfl (fun X hX => ex_sliceV rfl rfl rfl hm0o) (hS23) ?_
  simp only [Act.put, n1, n2, n3]
  refine gp 16 (some 151) (.slice B vs.length c) rfl rfl (hS23) ?_
  simp only [Act.put, n1, n2, n3]
  refine gp 17 (some 152) (.int .i64 (mo : Int)) rfl rfl (hS23) ?_
  simp only [Act.put, n1, n2, n3]
  refine gp 18 (some 153) (.slice B vs.length c) rfl rfl (hS23) ?_
  simp only [Act.put, n1, n2, n3]
  refine gq 19 (some 154) (.int .i64 (vs.length : Nat)) rfl rfl (fun X hX => ex_lenG 22 34 Tryz.underlying22 rfl rfl) (hS23) ?_
  simp only [Act.put, n1, n2, n3]
  refine gq 20 (some 155) (.int .i64 (m0 : Nat)) rfl rfl (fun X hX => ex_min rfl rfl rfl hmin2) (hS23) ?_
  simp only [Act.put, n1, n2, n3]
  refine gq 21 (some 156) (.slice B m0 c) rfl rfl (fun X hX => ex_sliceV rfl rfl rfl hm0c) (hS23) ?_
  simp only [Act.put, n1, n2, n3]
  refine gr (rs := [22]) (gc 22 (some 157) rfl rfl (lsame (some ⟨B2, 0, none⟩) B mo c m0 (vs.take m0) (by rw [List.length_take]; omega) _ (take_out hS23.2 (unhide HM0)) (((unhide HR).fr2 hS23.1.fr (by simp)).take m0) (by omega)) ?_ gn)
  rintro e Yt2 ⟨rfl, hYt2⟩
  have hqt2 := And.intro (hS23.1.on hYt2) (hS23.2.on hYt2)
  refine ⟨_, rfl, hqt2, ?_⟩
  refine gp 23 (some 158) (.bool true) rfl rfl (hqt2) ?_
  simp only [Act.put, n1, n2, n3]
  refine gp 24 (some 4) (.bool true) rfl rfl (hqt2) ?_
  simp only [Act.put, n1, n2, n3]
  refine wpAnyH_done (by kernel_rfl) ?_ _
  try simp only [Act.put, n1, n2, n3]
  have SS := hide hqt2.1
  go_wp2
  go_ret
  exact ⟨rfl, (unhide SS).fr.below⟩
theorem law_most (B : Option Addr) (c : Nat) (vs : List VV) (most : Int) (w : World) (h6 : 6 ≤ w.heap.size) (hT : Tabs w) (hR : ReadsV w B vs) (hX64 : ∀ (i : Nat) (v : VV), vs[i]? = some v → v.x < 2 ^ 64) (hcap : vs.length ≤ c) : Calls Tryz.prog 3 #[.slice B vs.length c, .int .i64 most] w fun e w' => e = .returned (.bool true) ∧ Below w.heap.size w w' := by
  rcases Nat.lt_or_ge 2000 vs.length with hz | hz
  · exact most_long B c vs most w h6 hT hR hX64 hz
  by_cases hc : knE 0 vs = 0
  · rcases (by omega : most < 0 ∨ 0 ≤ most) with hm | hm
    · exact most_neg B c vs most w h6 hT hR hX64 hz hc hm
    rcases (by omega : 65536 < most ∨ most ≤ 65536) with hm65 | hm65
    · exact most_far B c vs most w h6 hT hR hX64 hz hcap hc hm hm65
    · exact most_near B c vs most w h6 hT hR hX64 hz hcap hc hm hm65
  · exact most_bad B c vs most w h6 hT hR hX64 hz hc
