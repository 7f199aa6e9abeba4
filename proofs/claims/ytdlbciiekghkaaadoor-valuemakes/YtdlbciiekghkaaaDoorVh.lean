import Derived.Test.YtdlbciiekghkaaaDoorVm
import Derived.Great.BuildSlice
import Derived.Deep.CutRange
import Derived.Deep.RegionWith
import Derived.Deep.LoopGhost
namespace Go.Proofs.YtdlbciiekghkaaaDoor
open Go.RowKit FM Go.Great
attribute [local go_sem] bits_run run_store_float
/-- The values that the law makes, and what is wanted of them. -/
def uw (b : Bool) (x : Nat) (s : ByteArray) (n : Int) (j : Nat) : VV :=
  match j with
  | 0 => ⟨1, false, 0, ByteArray.empty, 0⟩
  | 1 => ⟨2, false, 0, ByteArray.empty, 0⟩
  | 2 => ⟨3, b, 0, ByteArray.empty, 0⟩
  | 3 => ⟨4, false, x, ByteArray.empty, 0⟩
  | 4 => ⟨5, false, 0, s, 0⟩
  | 5 => ⟨6, false, 0, ByteArray.empty, n⟩
  | _ => ⟨7, false, 0, ByteArray.empty, n⟩
def cells7 (u : Nat → VV) : Array Value :=
  #[.int .i64 (u 0).k, .bool (u 0).b, .float .f64 (u 0).x, .string (u 0).s, .int .i64 (u 0).i, .int .i64 (u 1).k, .bool (u 1).b, .float .f64 (u 1).x, .string (u 1).s, .int .i64 (u 1).i,
    .int .i64 (u 2).k, .bool (u 2).b, .float .f64 (u 2).x, .string (u 2).s, .int .i64 (u 2).i, .int .i64 (u 3).k, .bool (u 3).b, .float .f64 (u 3).x, .string (u 3).s, .int .i64 (u 3).i,
    .int .i64 (u 4).k, .bool (u 4).b, .float .f64 (u 4).x, .string (u 4).s, .int .i64 (u 4).i, .int .i64 (u 5).k, .bool (u 5).b, .float .f64 (u 5).x, .string (u 5).s, .int .i64 (u 5).i,
    .int .i64 (u 6).k, .bool (u 6).b, .float .f64 (u 6).x, .string (u 6).s, .int .i64 (u 6).i]
def cells5 (v : VV) : Array Value := #[.int .i64 v.k, .bool v.b, .float .f64 v.x, .string v.s, .int .i64 v.i]
def zeros7 : Array Value := cells7 fun _ => VV.zero
/-- Seven values lie in a block. -/
def Tab (w : World) (B : Nat) (u : Nat → VV) : Prop :=
  B < w.heap.size ∧ ∀ j, j < 7 → w.cell? ⟨B, j * 5, none⟩ = some (.int .i64 (u j).k) ∧ w.cell? ⟨B, j * 5 + 1, none⟩ = some (.bool (u j).b) ∧ w.cell? ⟨B, j * 5 + 2, none⟩ = some (.float .f64 (u j).x) ∧ w.cell? ⟨B, j * 5 + 3, none⟩ = some (.string (u j).s) ∧ w.cell? ⟨B, j * 5 + 4, none⟩ = some (.int .i64 (u j).i)
theorem tab_below {w w' : World} {B : Nat} {u : Nat → VV} (h : Tab w B u) (hb : Below w.heap.size w w') : Tab w' B u :=
  ⟨Nat.lt_of_lt_of_le h.1 hb.size, fun j hj => ⟨(hb.cell h.1).trans (h.2 j hj).1, (hb.cell h.1).trans (h.2 j hj).2.1, (hb.cell h.1).trans (h.2 j hj).2.2.1, (hb.cell h.1).trans (h.2 j hj).2.2.2.1, (hb.cell h.1).trans (h.2 j hj).2.2.2.2⟩⟩
theorem setRow_alloc (w : World) (old cells : Array Value) (t : TypeId) : (w.alloc (.cells old t)).setRow w.heap.size cells = w.alloc (.cells cells t) := by
  unfold World.setRow World.alloc
  congr 1
  apply Array.ext
  · simp
  · intro k h1 h2
    simp only [Array.getElem_modify]
    split
    · rename_i hk
      subst hk
      simp
    · rename_i hk
      have : k < w.heap.size := by simp at h2; omega
      simp [Array.getElem_push_lt, this]
theorem heap_new (w : World) (cs : Array Value) (t : TypeId) : (w.alloc (.cells cs t)).heap[w.heap.size]? = some (.cells cs t (0, 0)) := by
  show (w.heap.push (.cells cs t))[w.heap.size]? = _
  simp
theorem tab_new (w : World) (u : Nat → VV) : Tab (w.alloc (.cells (cells7 u) 30)) w.heap.size u := by
  refine ⟨by simp, fun j hj => ?_⟩
  have e : ∀ o v, (cells7 u)[o]? = some v → (w.alloc (.cells (cells7 u) 30)).cell? ⟨w.heap.size, o, none⟩ = some v := by
    intro o v h
    rw [World.cell?_alloc_at (cells7 u) 30 w.heap.size o rfl]
    exact h
  have hj' : j = 0 ∨ j = 1 ∨ j = 2 ∨ j = 3 ∨ j = 4 ∨ j = 5 ∨ j = 6 := by omega
  rcases hj' with rfl | rfl | rfl | rfl | rfl | rfl | rfl <;> exact ⟨e _ _ rfl, e _ _ rfl, e _ _ rfl, e _ _ rfl, e _ _ rfl⟩
def K0 (w : World) (k' : Int) (b' : Bool) (x' : Nat) (s' : ByteArray) (i' : Int) (wx : World) : Prop :=
  Five wx w.heap.size (.int .i64 k') (.bool b') (.float .f64 x') (.string s') (.int .i64 i') ∧ Below w.heap.size w wx
theorem um0 : VV.made ⟨1, false, 0, ByteArray.empty, 0⟩ = ⟨1, false, 0, ByteArray.empty, 0⟩ := by
  have : VV.good ⟨1, false, 0, ByteArray.empty, 0⟩ = true := by unfold VV.good goodV inG strV; simp
  unfold VV.made
  rw [this]
  rfl
theorem um1 : VV.made ⟨2, false, 0, ByteArray.empty, 0⟩ = ⟨2, false, 0, ByteArray.empty, 0⟩ := by
  have : VV.good ⟨2, false, 0, ByteArray.empty, 0⟩ = true := by unfold VV.good goodV inG strV; simp
  unfold VV.made
  rw [this]
  rfl
theorem um2 (b : Bool) : VV.made ⟨3, b, 0, ByteArray.empty, 0⟩ = ⟨3, b, 0, ByteArray.empty, 0⟩ := by
  have : VV.good ⟨3, b, 0, ByteArray.empty, 0⟩ = true := by unfold VV.good goodV inG strV; simp
  unfold VV.made
  rw [this]
  rfl
theorem um3 (x : Nat) : VV.made ⟨4, false, x, ByteArray.empty, 0⟩ = ⟨4, false, x, ByteArray.empty, 0⟩ := by
  have : VV.good ⟨4, false, x, ByteArray.empty, 0⟩ = true := by unfold VV.good goodV inG strV; simp
  unfold VV.made
  rw [this]
  rfl
theorem wpList_runTo {P : Program} {ops : Array Oper} {rest : List Oper} {o : Oper} {a : Act} {w : World} {Q : Exit → Act → World → Prop} (hg : o.guard = none) (d : Option Tmp) (hd : o.dst = d) (v : Value) (w' : World)
    (hrun : (execOp a.eval o).run P w = .ok (.value v) w') (h : wpList P ops Q rest (a.put d v) w') : wpList P ops Q (o :: rest) a w := by
  subst hd
  refine wpList_plain hg fun K hK => ?_
  unfold Oper.wp
  rw [hrun]
  exact hK _ _ h
set_option maxHeartbeats 4000000 in
set_option maxRecDepth 100000 in
theorem law_makes (b : Bool) (x : Nat) (s : ByteArray) (n : Int) (v : VV) (w : World) (hT : Lib.Utf8Tabs 1 2 w) (hx : x < 2 ^ 64) (hv : v.x < 2 ^ 64) :
    Calls Tryd.prog 3 #[.bool b, .float .f64 x, .string s, .int .i64 n, v.agg] w fun e w' => e = .returned (.bool true) ∧ Below w.heap.size w w' := by
  have HT := hide hT
  have HO1 := hide undefined_any
  have HO2 := hide null_any
  have HO3 := hide (bool_any b)
  have HO4 := hide (num_any x)
  have HO5 := hide (str_any s)
  have HO6 := hide (sym_any n)
  have HO7 := hide (ref_any n)
  have HC := hide (check_any v)
  have HR := hide (refCheck_any v hv)
  have hu : ∃ um : Nat → VV, (∀ j, um j = (uw b x s n j).made) ∧ um 0 = ⟨1, false, 0, ByteArray.empty, 0⟩ ∧ um 1 = ⟨2, false, 0, ByteArray.empty, 0⟩ ∧ um 2 = ⟨3, b, 0, ByteArray.empty, 0⟩ ∧ um 3 = ⟨4, false, x, ByteArray.empty, 0⟩ ∧
      um 4 = VV.made ⟨5, false, 0, s, 0⟩ ∧ um 5 = VV.made ⟨6, false, 0, ByteArray.empty, n⟩ ∧ um 6 = VV.made ⟨7, false, 0, ByteArray.empty, n⟩ :=
    ⟨fun j => (uw b x s n j).made, fun _ => rfl, um0, um1, um2 b, um3 x, rfl, rfl, rfl⟩
  obtain ⟨um, hum, u0, u1, u2, u3, u4, u5, u6⟩ := hu
  have HU := hide hum
  rw [← u0] at HO1
  rw [← u1] at HO2
  rw [← u2] at HO3
  rw [← u3] at HO4
  rw [← u4] at HO5
  rw [← u5] at HO6
  rw [← u6] at HO7
  clear hT hum u0 u1 u2 u3 u4 u5 u6 hv
  obtain ⟨k', b', x', s', i'⟩ := v
  unfold VV.agg at *
  dsimp only at *
  go_enter Tryd.func3, Tryd.ntmps3
  go_upto_region 1 with fail
  go_cut [11] from 14 to 26 (fun p wx => ∃ B, p = .pointer (some ⟨B, 0, none⟩) ∧ w.heap.size ≤ B ∧ Tab wx B um ∧ K0 w k' b' x' s' i' wx)
  case first =>
    have hB0 : Below w.heap.size w (w.alloc (Obj.cells #[Value.int IntKind.i64 k', Value.bool b', Value.float FloatKind.f64 x', Value.string s', Value.int IntKind.i64 i'] 24)) := (Below.refl _ _).alloc (Nat.le_refl _) _
    have F0 := five_new w _ (.int .i64 k') (.bool b') (.float .f64 x') (.string s') (.int .i64 i') 24 rfl
    generalize w.alloc (Obj.cells #[Value.int IntKind.i64 k', Value.bool b', Value.float FloatKind.f64 x', Value.string s', Value.int IntKind.i64 i'] 24) = w0 at *
    go_wp2_with fail
    refine (unhide HO1 _).mono ?_
    rintro e w1 ⟨rfl, hb⟩
    have hB1 := bt hB0 hb
    have F1 := five_below F0 hb
    clear F0 hB0 hb HO1 w0
    go_wp2_with fail
    refine (unhide HO2 _).mono ?_
    rintro e w2 ⟨rfl, hb⟩
    have hB2 := bt hB1 hb
    have F2 := five_below F1 hb
    clear F1 hB1 hb HO2 w1
    go_wp2_with fail
    refine (unhide HO3 _).mono ?_
    rintro e w3 ⟨rfl, hb⟩
    have hB3 := bt hB2 hb
    have F3 := five_below F2 hb
    clear F2 hB2 hb HO3 w2
    go_wp2_with fail
    refine (unhide HO4 _).mono ?_
    rintro e w4 ⟨rfl, hb⟩
    have hB4 := bt hB3 hb
    have F4 := five_below F3 hb
    clear F3 hB3 hb HO4 w3
    go_wp2_with fail
    refine (unhide HO5 _ (tabs_below (unhide HT) hB4)).mono ?_
    rintro e w5 ⟨rfl, hb⟩
    have hB5 := bt hB4 hb
    have F5 := five_below F4 hb
    clear F4 hB4 hb HO5 w4
    go_wp2_with fail
    refine (unhide HO6 _ (tabs_below (unhide HT) hB5)).mono ?_
    rintro e w6 ⟨rfl, hb⟩
    have hB6 := bt hB5 hb
    have F6 := five_below F5 hb
    clear F5 hB5 hb HO6 w5
    go_wp2_with fail
    refine (unhide HO7 _ (tabs_below (unhide HT) hB6)).mono ?_
    rintro e w7 ⟨rfl, hb⟩
    have hB7 := bt hB6 hb
    have F7 := five_below F6 hb
    clear F6 hB6 hb HO7 w6
    rename_i K hK
    refine hK _ _ ?_
    clear hK K
    refine wpList_buildTo rfl 30 _ rfl (some 26) rfl (cells7 um) (by kernel_rfl) ?_
    refine wpList_runTo rfl (some 11) rfl (.pointer (some ⟨w7.heap.size, 0, none⟩)) (w7.alloc (.cells zeros7 30)) (by kernel_rfl) ?_
    refine wpList_store_rowTo rfl 30 _ _ rfl rfl w7.heap.size (cells7 um) (by kernel_rfl) (by kernel_rfl) 30 zeros7 (heap_new _ _ _) (by kernel_rfl) (by kernel_rfl) (by kernel_rfl) ?_
    rw [setRow_alloc]
    apply wpList_nil
    go_wp2_with fail
    go_meet
    exact ⟨_, rfl, hB7.size, tab_new _ _, five_alloc F7 _, hB7.alloc hB7.size _⟩
  case rest =>
  obtain ⟨B, rfl, hBB, hT1, hK1⟩ := hcut
  clear HO1 HO2 HO3 HO4 HO5 HO6 HO7
  go_upto_region 2 with fail
  go_cut [12] from 27 to 39 (fun p wx => ∃ C, p = .pointer (some ⟨C, 0, none⟩) ∧ w.heap.size ≤ C ∧ Tab wx C (uw b x s n) ∧ Tab wx B um ∧ K0 w k' b' x' s' i' wx)
  case first =>
    apply wp_region_lit
    refine wpList_buildTo rfl 24 _ rfl (some 27) rfl (cells5 (uw b x s n 0)) (by kernel_rfl) ?_
    refine wpList_buildTo rfl 24 _ rfl (some 28) rfl (cells5 (uw b x s n 1)) (by kernel_rfl) ?_
    refine wpList_runTo rfl (some 29) rfl (.bool b) wc (by kernel_rfl) ?_
    refine wpList_buildTo rfl 24 _ rfl (some 30) rfl (cells5 (uw b x s n 2)) (by kernel_rfl) ?_
    refine wpList_runTo rfl (some 31) rfl (.float .f64 x) wc (by kernel_rfl) ?_
    refine wpList_buildTo rfl 24 _ rfl (some 32) rfl (cells5 (uw b x s n 3)) (by kernel_rfl) ?_
    refine wpList_runTo rfl (some 33) rfl (.string s) wc (by kernel_rfl) ?_
    refine wpList_buildTo rfl 24 _ rfl (some 34) rfl (cells5 (uw b x s n 4)) (by kernel_rfl) ?_
    refine wpList_runTo rfl (some 35) rfl (.int .i64 n) wc (by kernel_rfl) ?_
    refine wpList_buildTo rfl 24 _ rfl (some 36) rfl (cells5 (uw b x s n 5)) (by kernel_rfl) ?_
    refine wpList_runTo rfl (some 37) rfl (.int .i64 n) wc (by kernel_rfl) ?_
    refine wpList_buildTo rfl 24 _ rfl (some 38) rfl (cells5 (uw b x s n 6)) (by kernel_rfl) ?_
    refine wpList_buildTo rfl 30 _ rfl (some 39) rfl (cells7 (uw b x s n)) (by kernel_rfl) ?_
    refine wpList_runTo rfl (some 12) rfl (.pointer (some ⟨wc.heap.size, 0, none⟩)) (wc.alloc (.cells zeros7 30)) (by kernel_rfl) ?_
    refine wpList_store_rowTo rfl 30 _ _ rfl rfl wc.heap.size (cells7 (uw b x s n)) (by kernel_rfl) (by kernel_rfl) 30 zeros7 (heap_new _ _ _) (by kernel_rfl) (by kernel_rfl) (by kernel_rfl) ?_
    rw [setRow_alloc]
    apply wpList_nil
    simp only [Act.put, List.setIfInBounds_toArray, List.set_cons_succ, List.set_cons_zero]
    generalize Value.agg (cells5 (uw b x s n 0)) = q0
    generalize Value.agg (cells5 (uw b x s n 1)) = q1
    generalize Value.agg (cells5 (uw b x s n 2)) = q2
    generalize Value.agg (cells5 (uw b x s n 3)) = q3
    generalize Value.agg (cells5 (uw b x s n 4)) = q4
    generalize Value.agg (cells5 (uw b x s n 5)) = q5
    generalize Value.agg (cells5 (uw b x s n 6)) = q6
    generalize Value.agg (cells7 (uw b x s n)) = q7
    go_wp2_with fail
    go_meet
    exact ⟨_, rfl, hK1.2.size, tab_new _ _, tab_below hT1 ((Below.refl _ _).alloc (Nat.le_refl _) _), five_alloc hK1.1 _, hK1.2.alloc hK1.2.size _⟩
  case rest =>
  clear hT1 hK1
  obtain ⟨C, rfl, hBC, hT2, hT1, hK1⟩ := hcut
  go_wp2_with fail
  go_loopw [13] (fun t wr => ∃ j : Nat, t = .int .i64 j ∧ j ≤ 7 ∧ Tab wr C (uw b x s n) ∧ Tab wr B um ∧ K0 w k' b' x' s' i' wr) (fun t _ => 7 - (intOf t).toNat)
  case atStart => exact ⟨0, rfl, by omega, hT2, hT1, hK1⟩
  case round =>
    clear hT1 hT2 hK1
    obtain ⟨j, rfl, hj, hT2, hT1, hK1⟩ := hrel
    by_cases h7 : j < 7
    · have h7' : (j : Int) < 7 := by omega
      have h0' : (0 : Int) ≤ (j : Int) := by omega
      obtain ⟨c0, c1, c2, c3, c4⟩ := hT1.2 j h7
      obtain ⟨d0, d1, d2, d3, d4⟩ := hT2.2 j h7
      have hum : um j = (uw b x s n j).made := unhide HU j
      have hux : (uw b x s n j).x < 2 ^ 64 := by
        unfold uw
        split <;> first | exact hx | exact Nat.two_pow_pos 64
      have HA := hide (refMade_any (uw b x s n j) hux)
      have HE := hide (eq_any (um j) (um j))
      have heq : eqB (um j) (um j) = true := by unfold eqB; simp
      rw [heq] at HE
      rw [← hum] at HA
      have HP := hide (check_any (uw b x s n j))
      have HQ := hide (refCheck_any (uw b x s n j) hux)
      have BB := hT1.1
      have CC := hT2.1
      clear heq hum hux
      have HT1 := hide hT1
      have HT2 := hide hT2
      have HK1 := hide hK1
      clear hT1 hT2 hK1
      generalize um j = uj at *
      generalize uw b x s n j = vj at *
      generalize errB vj.good = ej at *
      unfold VV.agg at *
      go_upto_region 6 with fail
      go_cut [63] from 40 to 63 (fun c wx => c = .bool false ∧ Below wr.heap.size wr wx)
      case first =>
        go_region_with (first | (go_at_call 15; refine (unhide HA _).mono ?_; rintro e wa ⟨rfl, hba⟩; have hwa := bt ((unhide HK1).2.drew) hba; have ca0 := (hba.cell (p := ⟨B, j * 5, none⟩) BB).trans c0; have ca1 := (hba.cell (p := ⟨B, j * 5 + 1, none⟩) BB).trans c1; have ca2 := (hba.cell (p := ⟨B, j * 5 + 2, none⟩) BB).trans c2; have ca3 := (hba.cell (p := ⟨B, j * 5 + 3, none⟩) BB).trans c3; have ca4 := (hba.cell (p := ⟨B, j * 5 + 4, none⟩) BB).trans c4; have da0 := (hba.cell (p := ⟨C, j * 5, none⟩) CC).trans d0; have da1 := (hba.cell (p := ⟨C, j * 5 + 1, none⟩) CC).trans d1; have da2 := (hba.cell (p := ⟨C, j * 5 + 2, none⟩) CC).trans d2; have da3 := (hba.cell (p := ⟨C, j * 5 + 3, none⟩) CC).trans d3; have da4 := (hba.cell (p := ⟨C, j * 5 + 4, none⟩) CC).trans d4; have BBa := Nat.lt_of_lt_of_le BB hba.size; have CCa := Nat.lt_of_lt_of_le CC hba.size) | (go_at_call 14; refine (unhide HE _).mono ?_; rintro e wb ⟨rfl, hbb⟩; have hwb := bt hwa hbb; have cb0 := (hbb.cell (p := ⟨B, j * 5, none⟩) BBa).trans ca0; have cb1 := (hbb.cell (p := ⟨B, j * 5 + 1, none⟩) BBa).trans ca1; have cb2 := (hbb.cell (p := ⟨B, j * 5 + 2, none⟩) BBa).trans ca2; have cb3 := (hbb.cell (p := ⟨B, j * 5 + 3, none⟩) BBa).trans ca3; have cb4 := (hbb.cell (p := ⟨B, j * 5 + 4, none⟩) BBa).trans ca4; have db0 := (hbb.cell (p := ⟨C, j * 5, none⟩) CCa).trans da0; have db1 := (hbb.cell (p := ⟨C, j * 5 + 1, none⟩) CCa).trans da1; have db2 := (hbb.cell (p := ⟨C, j * 5 + 2, none⟩) CCa).trans da2; have db3 := (hbb.cell (p := ⟨C, j * 5 + 3, none⟩) CCa).trans da3; have db4 := (hbb.cell (p := ⟨C, j * 5 + 4, none⟩) CCa).trans da4; have BBb := Nat.lt_of_lt_of_le BBa hbb.size; have CCb := Nat.lt_of_lt_of_le CCa hbb.size) | (go_at_call 16; refine (unhide HP _ (tabs_below (unhide HT) hwb)).mono ?_; rintro e wd ⟨rfl, hbd⟩; have cd0 := (hbd.cell (p := ⟨B, j * 5, none⟩) BBb).trans cb0; have cd1 := (hbd.cell (p := ⟨B, j * 5 + 1, none⟩) BBb).trans cb1; have cd2 := (hbd.cell (p := ⟨B, j * 5 + 2, none⟩) BBb).trans cb2; have cd3 := (hbd.cell (p := ⟨B, j * 5 + 3, none⟩) BBb).trans cb3; have cd4 := (hbd.cell (p := ⟨B, j * 5 + 4, none⟩) BBb).trans cb4; have dd0 := (hbd.cell (p := ⟨C, j * 5, none⟩) CCb).trans db0; have dd1 := (hbd.cell (p := ⟨C, j * 5 + 1, none⟩) CCb).trans db1; have dd2 := (hbd.cell (p := ⟨C, j * 5 + 2, none⟩) CCb).trans db2; have dd3 := (hbd.cell (p := ⟨C, j * 5 + 3, none⟩) CCb).trans db3; have dd4 := (hbd.cell (p := ⟨C, j * 5 + 4, none⟩) CCb).trans db4) | (go_at_call 17; refine (unhide HQ _).mono ?_; rintro e we ⟨rfl, hbe⟩))
        all_goals
          have hbf := bt (bt (bt ((Below.refl wr.heap.size wr).drew.trans hba) hbb) hbd) hbe
          go_wp2_with fail
          go_meet
          first | exact ⟨rfl, hbf⟩ | exact ⟨by simp, hbf⟩
      case rest =>
        obtain ⟨rfl, hbw⟩ := hcut
        have T1 := tab_below (unhide HT1) hbw
        have T2 := tab_below (unhide HT2) hbw
        have KK : K0 w k' b' x' s' i' wc := ⟨five_below (unhide HK1).1 hbw, bt (unhide HK1).2 hbw⟩
        clear HA HE HP HQ hbw c0 c1 c2 c3 c4 d0 d1 d2 d3 d4 HT1 HT2 HK1
        go_wp2_with fail
        refine ⟨⟨j + 1, by simp, by omega, T2, T1, KK⟩, ?_⟩
        simp only [intOf]
        omega
    · have hj7 : j = 7 := by omega
      subst hj7
      obtain ⟨F, hB⟩ := hK1
      obtain ⟨f0, f1, f2, f3, f4, ff, fl⟩ := F
      clear HU hT1 hT2
      generalize VV.good ⟨k', b', x', s', i'⟩ = gd at *
      generalize errB gd = er at *
      go_wp2_with fail
      go_region_with (first | (go_at_call 16; refine (unhide HC _ (tabs_below (unhide HT) hB.drew)).mono ?_; rintro e wa ⟨rfl, hba⟩; have hwa := bt hB.drew hba; have f0a := (hba.cell (p := ⟨w.heap.size, 0, none⟩) fl).trans f0; have f1a := (hba.cell (p := ⟨w.heap.size, 1, none⟩) fl).trans f1; have f2a := (hba.cell (p := ⟨w.heap.size, 2, none⟩) fl).trans f2; have f3a := (hba.cell (p := ⟨w.heap.size, 3, none⟩) fl).trans f3; have f4a := (hba.cell (p := ⟨w.heap.size, 4, none⟩) fl).trans f4) | (go_at_call 17; refine (unhide HR _).mono ?_; rintro e wb ⟨rfl, hbb⟩; have hwb := bt hwa hbb))
      all_goals
        go_wp2
        go_ret
        exact ⟨rfl, hwb⟩
end Go.Proofs.YtdlbciiekghkaaaDoor
