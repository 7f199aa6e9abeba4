import Derived.Test.YtmgflhhealdfoaaGreatDoorRl
set_option linter.all false
namespace Go.Proofs.YtmgflhhealdfoaaGreatDoor
set_option maxHeartbeats 1000000
section
open Go Go.Proofs Go.Maps Go.RowKit FM
attribute [local go_sem] mm_GetOwnProperty mm_DefineOwnProperty mm_Get ta_caller ta_builder
def nullV : VV := ⟨2, false, 0, ByteArray.empty, 0⟩
/-- A frame: its heap, the function, its receiver, arguments, target, registers. -/
def frC (hb : Nat) (sf : Int) (th : VV) (ar : Value) (tg : VV) (rs : List VV) : List Value := [.pointer (some ⟨hb, 0, none⟩), .int .i64 sf] ++ th.cs ++ [ar] ++ tg.cs ++ rs.flatMap VV.cs
theorem flatV_len (rs : List VV) : (rs.flatMap VV.cs).length = rs.length * 5 := flat_len VV.cs 5 (fun _ => rfl) rs
theorem frC_len (hb : Nat) (sf : Int) (th : VV) (ar : Value) (tg : VV) (rs : List VV) : (frC hb sf th ar tg rs).length = 13 + rs.length * 5 := by
  unfold frC
  simp only [List.length_append, flatV_len]
  simp [VV.cs]
theorem fr_at {hb : Nat} {sf : Int} {th : VV} {ar : Value} {tg : VV} {rs : List VV} {i : Nat} {v : VV} (hi : rs[i]? = some v) : ((frC hb sf th ar tg rs).drop (13 + i * 5)).take 5 = v.cs := by
  have h0 : (frC hb sf th ar tg rs).drop (13 + i * 5) = (rs.flatMap VV.cs).drop (i * 5) := by
    unfold frC
    rw [List.drop_append, List.drop_of_length_le (by simp [VV.cs])]
    simp [VV.cs]
  rw [h0]
  apply List.ext_getElem?
  intro t
  rw [List.getElem?_take, List.getElem?_drop]
  obtain ⟨hlt, hv⟩ := List.getElem?_eq_some_iff.1 hi
  by_cases ht : t < 5
  · rw [if_pos ht, flat_get VV.cs 5 (fun _ => rfl) rs i t hlt ht, hv]
  · rw [if_neg ht, List.getElem?_eq_none (by simp [VV.cs]; omega)]
theorem cput_flat (rs : List VV) (i : Nat) (v : VV) (hi : i < rs.length) : cput (rs.flatMap VV.cs) (i * 5) v.cs = (rs.set i v).flatMap VV.cs := by
  induction rs generalizing i with
  | nil => simp at hi
  | cons r rs ih =>
    cases i with
    | zero => simp [cput, VV.cs]
    | succ i =>
      have h1 := ih i (by simpa using hi)
      rw [List.set_cons_succ, List.flatMap_cons, List.flatMap_cons, ← h1]
      have e : (i + 1) * 5 = r.cs.length + i * 5 := by simp [VV.cs]; omega
      rw [e, cput_app]
theorem fr_put {hb : Nat} {sf : Int} {th : VV} {ar : Value} {tg : VV} {rs : List VV} {i : Nat} {v : VV} (hi : i < rs.length) : cput (frC hb sf th ar tg rs) (13 + i * 5) v.cs = frC hb sf th ar tg (rs.set i v) := by
  unfold frC
  have e : 13 + i * 5 = ([.pointer (some ⟨hb, 0, none⟩), .int .i64 sf] ++ th.cs ++ [ar] ++ tg.cs : List Value).length + i * 5 := by simp [VV.cs]
  rw [e, cput_app, cput_flat rs i v hi]
theorem ex_ixR {o : Oper} {a : Act} {w : World} {x ix : Operand} {B : Nat} (i : Nat) (ho : o.op = .indexAddr 236 x ix) (hx : a.eval x = .pointer (some ⟨B, 13, none⟩)) (hix : a.eval ix = .int .i64 (i : Nat)) (hi : i < 16) : (execOp a.eval o).run Tryz.prog w = .ok (.value (.pointer (some ⟨B, 13 + i * 5, none⟩))) w := by
  have h1 : (Instr.indexAt 236 (.pointer (some ⟨B, 13, none⟩)) (.int .i64 (i : Nat))).run Tryz.prog w = .ok (.pointer (some ⟨B, 13 + i * 5, none⟩)) w := by
    rcases (by omega : i = 0 ∨ i = 1 ∨ i = 2 ∨ i = 3 ∨ i = 4 ∨ i = 5 ∨ i = 6 ∨ i = 7 ∨ i = 8 ∨ i = 9 ∨ i = 10 ∨ i = 11 ∨ i = 12 ∨ i = 13 ∨ i = 14 ∨ i = 15) with rfl | rfl | rfl | rfl | rfl | rfl | rfl | rfl | rfl | rfl | rfl | rfl | rfl | rfl | rfl | rfl <;> kernel_rfl
  unfold execOp
  simp only [ho, hx, hix]
  simp [h1]
theorem szR_ : (Tryz.prog.info? 238).map (·.size) = some 93 := by kernel_rfl
def tcs (k : Int) (v : VV) : List Value := Value.int .i64 k :: v.cs
def thrV (B : Nat) : Value := .iface 121 (.pointer (some ⟨B, 0, none⟩))
theorem ex_bT {o : Oper} {a : Act} {w : World} {x y : Operand} (k : Int) (v : VV) (ho : o.op = .build 123 #[(0, x), (1, y)]) (hx : a.eval x = .int .i64 k) (hy : a.eval y = .agg v.cs.toArray) : (execOp a.eval o).run Tryz.prog w = .ok (.value (.agg (tcs k v).toArray)) w := by
  have e1 : (Instr.build 123 #[(0, .int .i64 k), (1, .agg v.cs.toArray)]).run Tryz.prog w = .ok (.agg (tcs k v).toArray) w := by kernel_rfl
  unfold execOp
  simp only [ho]
  simp [hx, hy, e1]
theorem ta_thr (p : Value) (w : World) : (Instr.typeAssert (.iface 121 p) 33 121 true).run Tryz.prog w = .ok (.tuple #[p, .bool true]) w := by kernel_rfl
attribute [local go_sem] ta_thr
set_option maxHeartbeats 2000000 in
set_option maxRecDepth 100000 in
theorem asValue_t (v : VV) (hg : v.good = true) (Bt : Nat) (w : World) (hH : Holds w Bt (tcs 1 v)) (hT : Lib.Utf8Tabs 1 2 w) : Calls Tryz.prog 197 #[.pointer (some ⟨Bt, 0, none⟩)] w fun e w' => e = .returned (.tuple #[v.agg, .bool true]) ∧ Below w.heap.size w w' := by
  have SS := hide (Sy.nil w [])
  have HH : Hid (∀ X, Below w.heap.size w X → Holds X Bt (tcs 1 v)) := hide (fun X k => hH.block (k.block Bt (hH.lt (Nat.succ_pos _))))
  have HC := hide (fun w hT => check_any v w hT)
  rw [hg] at HC
  simp only [vagg] at *
  have HT := hide hT
  clear hT hg hH
  go_enter Tryz.func197, Tryz.ntmps197
  go_wp2_with (first | go_skip | ((with_reducible show wpList _ _ _ _ _ _); first | (refine zA 24 (zeroV.cs) (by rfl) rfl SS ?_; clear SS; intro X2 B2 SS; simp only [Act.put, n1, n2, n3]) | (refine rd (by rfl) (ex_load1 3 Tryz.isAgg3 rfl rfl (unhide HH _ (unhide SS).fr.below) rfl) ?_; simp only [Act.put, n1, n2, n3]) | (refine rd (by rfl) (ex_loadN (vs := v.cs) 24 5 rwV szV rfl rfl (unhide HH _ (unhide SS).fr.below) rfl rfl) ?_; simp only [Act.put, n1, n2, n3])))
  refine (unhide HC _ (tabs_below (unhide HT) (unhide SS).fr.below)).mono ?_
  rintro e0 X3 ⟨rfl, hb3⟩
  replace SS := hide ((unhide SS).on hb3)
  clear hb3
  simp only [errB]
  go_wp2_with (first | go_skip | ((with_reducible show wpList _ _ _ _ _ _); first | (refine rd (by rfl) (ex_loadN (vs := v.cs) 24 5 rwV szV rfl rfl (unhide HH _ (unhide SS).fr.below) rfl rfl) ?_; simp only [Act.put, n1, n2, n3]) | (refine zS (v.cs) 0 24 (by rfl) rfl rfl rfl rfl (oneV _) szV SS rfl ?_; clear SS; intro Xz SS; simp only [Act.put, n1, n2, n3])))
  refine bodyPost_ret (res_ct rwV szV rfl rfl rfl ((unhide SS).hold 0 rfl) rfl) rfl ?_
  exact ⟨rfl, (unhide SS).fr.below⟩
set_option maxHeartbeats 2000000 in
set_option maxRecDepth 100000 in
theorem caught_t (v : VV) (hg : v.good = true) (Bt : Nat) (w : World) (hH : Holds w Bt (tcs 1 v)) (hT : Lib.Utf8Tabs 1 2 w) : Calls Tryz.prog 180 #[thrV Bt] w fun e w' => e = .returned (.tuple #[v.agg, .bool true]) ∧ Below w.heap.size w w' := by
  have SS := hide (Sy.nil w [])
  have HC := hide (fun (X : World) (k : Below w.heap.size w X) => asValue_t v hg Bt X (hH.block (k.block Bt (hH.lt (Nat.succ_pos _)))) (tabs_below hT k))
  unfold thrV
  simp only [vagg] at *
  clear hT hg hH
  go_enter Tryz.func180, Tryz.ntmps180
  go_wp2_with (first | go_skip | ((with_reducible show wpList _ _ _ _ _ _); first | (refine zA 24 (zeroV.cs) (by rfl) rfl SS ?_; clear SS; intro X2 B2 SS; simp only [Act.put, n1, n2, n3])))
  refine (unhide HC _ (unhide SS).fr.below).mono ?_
  rintro e0 X3 ⟨rfl, hb3⟩
  replace SS := hide ((unhide SS).on hb3)
  clear hb3
  go_wp2_with (first | go_skip | ((with_reducible show wpList _ _ _ _ _ _); first | (refine zA 24 (zeroV.cs) (by rfl) rfl SS ?_; clear SS; intro X2 B2 SS; simp only [Act.put, n1, n2, n3]) | (refine zS (v.cs) 0 24 (by rfl) rfl rfl rfl rfl (oneV _) szV SS rfl ?_; clear SS; intro Xz SS; simp only [Act.put, n1, n2, n3])))
  refine bodyPost_ret (res_ct rwV szV rfl rfl rfl ((unhide SS).hold 0 rfl) rfl) rfl ?_
  exact ⟨rfl, (unhide SS).fr.below⟩
set_option maxHeartbeats 2000000 in
set_option maxRecDepth 100000 in
theorem handled_t (v : VV) (hg : v.good = true) (Bt : Nat) (w : World) (hH : Holds w Bt (tcs 1 v)) (hT : Lib.Utf8Tabs 1 2 w) : Calls Tryz.prog 174 #[thrV Bt] w fun e w' => e = .returned (.tuple #[v.agg, .nilIface]) ∧ Below w.heap.size w w' := by
  have SS := hide (Sy.nil w [])
  have HC := hide (fun (X : World) (k : Below w.heap.size w X) => caught_t v hg Bt X (hH.block (k.block Bt (hH.lt (Nat.succ_pos _)))) (tabs_below hT k))
  unfold thrV at *
  simp only [vagg] at *
  clear hT hg hH
  go_enter Tryz.func174, Tryz.ntmps174
  go_wp2_with (first | go_skip | ((with_reducible show wpList _ _ _ _ _ _); first | (refine zA 24 (zeroV.cs) (by rfl) rfl SS ?_; clear SS; intro X2 B2 SS; simp only [Act.put, n1, n2, n3])))
  refine (unhide HC _ (unhide SS).fr.below).mono ?_
  rintro e0 X3 ⟨rfl, hb3⟩
  replace SS := hide ((unhide SS).on hb3)
  clear hb3
  go_wp2_with (first | go_skip | ((with_reducible show wpList _ _ _ _ _ _); first | (refine zA 24 (zeroV.cs) (by rfl) rfl SS ?_; clear SS; intro X4 B4 SS; simp only [Act.put, n1, n2, n3]) | (refine zS (v.cs) 1 24 (by rfl) rfl rfl rfl rfl (oneV _) szV SS rfl ?_; clear SS; intro Xz SS; simp only [Act.put, n1, n2, n3]) | (refine zL (v.cs) 24 5 1 rwV szV (by rfl) rfl rfl SS rfl rfl rfl ?_; simp only [Act.put, n1, n2, n3]) | (refine zS (v.cs) 0 24 (by rfl) rfl rfl rfl rfl (oneV _) szV SS rfl ?_; clear SS; intro Xy SS; simp only [Act.put, n1, n2, n3])))
  refine bodyPost_ret (res_ct rwV szV rfl rfl rfl ((unhide SS).hold 0 rfl) rfl) rfl ?_
  exact ⟨rfl, (unhide SS).fr.below⟩
def boolV (b : Bool) : VV := ⟨3, b, 0, ByteArray.empty, 0⟩
/-- do: a frame's answer to an operation. -/
def DoP (V : VV) (w : World) (e : Ending) (X : World) : Prop := e = .returned (.tuple #[V.agg, .nilIface]) ∧ Below w.heap.size w X
set_option maxHeartbeats 2000000 in
set_option maxRecDepth 100000 in
theorem do3 (B hb : Nat) (sf : Int) (th : VV) (ar : Value) (tg : VV) (rs : List VV) (t a b d : Int) (k : KK) (v : VV) (e : DD) (x g : Bool) (w : World) (hF : Holds w B (frC hb sf th ar tg rs)) (hlt : B < w.heap.size) : Calls Tryz.prog 173 #[.pointer (some ⟨B, 0, none⟩), OP.agg ⟨3, t, a, b, d, k, v, e, x, g⟩] w (DoP th w) := by
  unfold DoP
  have SS := hide (Sy.nil w [])
  simp only [pagg, vagg] at *
  have HF : Hid (∀ X, Below w.heap.size w X → Holds X B (frC hb sf th ar tg rs)) := hide (fun X k => hF.block (k.block B hlt))
  clear hF
  go_enter Tryz.func173, Tryz.ntmps173
  go_wp2_with (first | go_skip | ((with_reducible show wpList _ _ _ _ _ _); first | (refine zB 40 (OP.cs ⟨3, t, a, b, d, k, v, e, x, g⟩) (by rfl) rfl rfl rfl SS ?_; clear SS; intro X1 B1 SS; simp only [Act.put, n1, n2, n3]) | (refine zA 24 (zeroV.cs) (by rfl) rfl SS ?_; clear SS; intro X2 B2 SS; simp only [Act.put, n1, n2, n3]) | (refine z1 3 Tryz.isAgg3 0 (by rfl) rfl rfl SS rfl rfl ?_; simp only [Act.put, n1, n2, n3]) | (refine rd (by rfl) (ex_loadN (vs := th.cs) 24 5 rwV szV rfl rfl (unhide HF _ (unhide SS).fr.below) rfl rfl) ?_; simp only [Act.put, n1, n2, n3]) | (refine zS (th.cs) 1 24 (by rfl) rfl rfl rfl rfl (oneV _) szV SS rfl ?_; clear SS; intro Xz SS; simp only [Act.put, n1, n2, n3])))
  refine bodyPost_ret (res_ct rwV szV rfl rfl rfl ((unhide SS).hold 1 rfl) rfl) rfl ?_
  exact ⟨rfl, (unhide SS).fr.below⟩
set_option maxHeartbeats 2000000 in
set_option maxRecDepth 100000 in
theorem do1 (B hb : Nat) (sf : Int) (th : VV) (ar : Value) (tg : VV) (rs : List VV) (t a b d : Int) (k : KK) (v : VV) (e : DD) (x g : Bool) (w : World) (hF : Holds w B (frC hb sf th ar tg rs)) (hlt : B < w.heap.size) : Calls Tryz.prog 173 #[.pointer (some ⟨B, 0, none⟩), OP.agg ⟨1, t, a, b, d, k, v, e, x, g⟩] w (DoP v w) := by
  unfold DoP
  have SS := hide (Sy.nil w [])
  simp only [pagg, vagg] at *
  have HF : Hid (∀ X, Below w.heap.size w X → Holds X B (frC hb sf th ar tg rs)) := hide (fun X k => hF.block (k.block B hlt))
  clear hF
  go_enter Tryz.func173, Tryz.ntmps173
  go_wp2_with (first | go_skip | ((with_reducible show wpList _ _ _ _ _ _); first | (refine zB 40 (OP.cs ⟨1, t, a, b, d, k, v, e, x, g⟩) (by rfl) rfl rfl rfl SS ?_; clear SS; intro X1 B1 SS; simp only [Act.put, n1, n2, n3]) | (refine zA 24 (zeroV.cs) (by rfl) rfl SS ?_; clear SS; intro X2 B2 SS; simp only [Act.put, n1, n2, n3]) | (refine z1 3 Tryz.isAgg3 0 (by rfl) rfl rfl SS rfl rfl ?_; simp only [Act.put, n1, n2, n3]) | (refine zL (v.cs) 24 5 0 rwV szV (by rfl) rfl rfl SS rfl rfl rfl ?_; simp only [Act.put, n1, n2, n3]) | (refine zS (v.cs) 1 24 (by rfl) rfl rfl rfl rfl (oneV _) szV SS rfl ?_; clear SS; intro Xz SS; simp only [Act.put, n1, n2, n3])))
  refine bodyPost_ret (res_ct rwV szV rfl rfl rfl ((unhide SS).hold 1 rfl) rfl) rfl ?_
  exact ⟨rfl, (unhide SS).fr.below⟩
set_option maxRecDepth 100000 in
theorem bool_any (b : Bool) (w : World) : Calls Tryz.prog 198 #[.bool b] w fun e w' => e = .returned ((boolV b).agg) ∧ Below w.heap.size w w' := by
  have SS := hide (Sy.nil w [])
  go_enter Tryz.func198, Tryz.ntmps198
  go_wp2_with (first | go_skip | ((with_reducible show wpList _ _ _ _ _ _); first | (refine zA 24 (zeroV.cs) (by rfl) rfl SS ?_; clear SS; intro Xa Ba SS; simp only [Act.put, n1, n2, n3])))
  refine (outside3 b _).mono ?_
  rintro _ Y1 ⟨rfl, hb1⟩
  replace SS := hide ((unhide SS).on hb1)
  clear hb1
  rw [show VV.agg ⟨3, b, 0, ByteArray.empty, 0⟩ = .agg (boolV b).cs.toArray from rfl]
  go_wp2_with (first | go_skip | ((with_reducible show wpList _ _ _ _ _ _); first | (refine zS ((boolV b).cs) 0 24 (by rfl) rfl rfl rfl rfl (oneV _) szV SS rfl ?_; clear SS; intro Xz SS; simp only [Act.put, n1, n2, n3])))
  refine ret_c rwV szV rfl rfl rfl ((unhide SS).hold 0 rfl) rfl ?_
  exact ⟨rfl, (unhide SS).fr.below⟩
theorem und_v (w : World) : Calls Tryz.prog 131 #[] w fun e w' => e = .returned undV.agg ∧ Below w.heap.size w w' := undefined_any w
def refV (i : Int) : VV := ⟨7, false, 0, ByteArray.empty, i⟩
theorem ex_bRef {o : Oper} {a : Act} {w : World} {x : Operand} {i : Int} (ho : o.op = .build 24 #[(0, .const (.int .i64 7)), (4, x)]) (hx : a.eval x = .int .i64 i) : (execOp a.eval o).run Tryz.prog w = .ok (.value (.agg (refV i).cs.toArray)) w := by
  have e : (Instr.build 24 #[(0, .int .i64 7), (4, .int .i64 i)]).run Tryz.prog w = .ok (.agg (refV i).cs.toArray) w := by kernel_rfl
  unfold execOp
  simp only [ho, List.map_toArray, List.map_cons, List.map_nil, hx]
  simp [e, Act.eval]
theorem ref_good {i : Int} (h : 1 ≤ i) (h2 : i ≤ 65536) : (refV i).good = true := by
  simp [VV.good, goodV, strV, refV, inG]
  exact ⟨decide_eq_true h, decide_eq_true h2⟩
set_option maxRecDepth 100000 in
theorem told_ok (b : Bool) (w : World) : Calls Tryz.prog 183 #[.bool b, .nilIface] w fun e w' => e = .returned (.tuple #[(boolV b).agg, .nilIface]) ∧ Below w.heap.size w w' := by
  have SS := hide (Sy.nil w [])
  rw [vagg]
  go_enter Tryz.func183, Tryz.ntmps183
  go_wp2_with (first | go_skip | ((with_reducible show wpList _ _ _ _ _ _); first | (refine zA 24 (zeroV.cs) (by rfl) rfl SS ?_; clear SS; intro Xa Ba SS; simp only [Act.put, n1, n2, n3])))
  refine (bool_any b _).mono ?_
  rintro _ Y1 ⟨rfl, hb1⟩
  replace SS := hide ((unhide SS).on hb1)
  clear hb1
  rw [vagg]
  go_wp2_with (first | go_skip | ((with_reducible show wpList _ _ _ _ _ _); first | (refine zS ((boolV b).cs) 0 24 (by rfl) rfl rfl rfl rfl (oneV _) szV SS rfl ?_; clear SS; intro Xz SS; simp only [Act.put, n1, n2, n3])))
  refine bodyPost_ret (res_ct rwV szV rfl rfl rfl ((unhide SS).hold 0 rfl) rfl) rfl ?_
  exact ⟨rfl, (unhide SS).fr.below⟩
