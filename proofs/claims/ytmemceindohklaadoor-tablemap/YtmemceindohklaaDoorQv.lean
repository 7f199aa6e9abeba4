import Derived.Test.YtmemceindohklaaDoorQr
import Derived.Test.YtmemceindohklaaDoorRh
import Derived.Deep.LoopGhost
import Derived.OwnWalk
import Derived.ProofKit
import Derived.OpenShut
import Derived.Deep.Slices
import Derived.Lib.SmallJoins

/-! Rj -/
namespace Go.Proofs.YtmemceindohklaaDoor
open Go Go.Proofs Go.Maps Go.RowKit
set_option linter.unusedSimpArgs false
set_option linter.unusedVariables false
set_option maxHeartbeats 1000000
theorem few7 (A : Option Addr) (n cap : Nat) (w : World) : Calls Tryd.prog 7 #[.slice A n cap] w fun e w' => e = .returned (.bool (decide (n ≤ 400))) ∧ w' = w := by
  have hd : decide ((n : Int) ≤ 400) = decide (n ≤ 400) := by
    rcases Nat.lt_or_ge 400 n with h | h
    · rw [decide_eq_false (by omega), decide_eq_false (by omega)]
    · rw [decide_eq_true (by omega), decide_eq_true (by omega)]
  go_enter Tryd.func7, Tryd.ntmps7
  go_wp2_with (first | go_skip | ((with_reducible show wpList _ _ _ _ _ _); first | ((refine vl (by rfl) (ex_lenG 22 42 Tryd.underlying22 rfl rfl) ?_); simp only [Act.put, List.setIfInBounds_toArray, List.set_cons_succ, List.set_cons_zero])))
  go_ret
  exact ⟨by first | rfl | rw [← hd] | simp [hd], rfl⟩
theorem ret_c {fn : Func} {R : Ending → World → Prop} {a : Act} {w : World} {b r T n : Nat} {cs : List Value} (hT : ∃ d, Tryd.prog.underlying T = some d ∧ d.isRow = true) (hn : (Tryd.prog.info? T).map (·.size) = some n) (hr : fn.results = #[.cell r T]) (hdf : a.defers = [])
    (hx : a.tmps.getD r undef = .pointer (some ⟨b, 0, none⟩)) (hc : Holds w b cs) (hcs : cs.length = n) (h : R (.returned (.agg cs.toArray)) w) : bodyPost Tryd.prog fn R .ret a w := by
  obtain ⟨t, hu, hd⟩ := hT
  have h0 := hc.mid 0 n
  rw [List.drop_zero, List.take_of_length_le (by omega)] at h0
  have hl := run_loadVar_mid (P := Tryd.prog) w b 0 T _ t h0 hu hd (by rw [hn, hcs])
  refine ⟨hdf, _, ?_, h⟩
  simp only [Array.getD_eq_getD_getElem?] at hx
  unfold results
  simp [hr, hx, hl, asAddr]
  try rfl
theorem str26 (b : ByteArray) (w : World) : Calls Tryd.prog 26 #[.string b] w fun e w' => e = .returned (KK.agg ⟨b, 0⟩) ∧ Below w.heap.size w w' := by
  go_enter Tryd.func26, Tryd.ntmps26
  go_wp2
  refine ret_c row33x siz33 rfl rfl rfl (cs := [.string b, .int .i64 0]) ?_ rfl ⟨rfl, ?_⟩
  · exact Holds.new w [.string b, .int .i64 0] 34
  · exact (Below.refl _ _).alloc (Nat.le_refl _) _
end Go.Proofs.YtmemceindohklaaDoor

/-! Rk -/
namespace Go.Proofs.YtmemceindohklaaDoor
open Go Go.Proofs Go.Maps Go.RowKit
set_option linter.unusedSimpArgs false
set_option linter.unusedVariables false
set_option maxHeartbeats 1000000
def nmK : Nat → KK
  | 0 => ⟨⟨#[98]⟩, 0⟩
  | 1 => ⟨⟨#[50]⟩, 0⟩
  | 2 => ⟨⟨#[97]⟩, 0⟩
  | _ => ⟨⟨#[49]⟩, 0⟩
def PN : Nat → AS
  | 0 => ⟨[], 0⟩
  | i + 1 => (PN i).put (nmK i) zeroD
def nmCs : List Value := [.string ⟨#[98]⟩, .string ⟨#[50]⟩, .string ⟨#[97]⟩, .string ⟨#[49]⟩]
theorem tabP_eq {w X : World} (h : TabP w) (he : ∀ b, b < w.heap.size → X.heap[b]? = w.heap[b]?) : TabP X := by
  unfold TabP Lib.TabIs World.var? at *
  cases hg : Tryd.prog.globalNamed "internal/strconv.uint64pow10" with
  | none => simp [hg] at h
  | some g =>
    simp only [hg, Option.bind_some] at h ⊢
    have hlt : g < w.heap.size := by
      rcases Nat.lt_or_ge g w.heap.size with h' | h'
      · exact h'
      · rw [Array.getElem?_eq_none h'] at h; simp at h
    rw [he g hlt]
    exact h
theorem ex_build4K {o : Oper} {a : Act} {w : World} {x0 x1 x2 x3 : Operand} (k0 k1 k2 k3 : KK) (ho : o.op = .buildSlice 49 4 #[(0, x0), (1, x1), (2, x2), (3, x3)]) (h0 : a.eval x0 = k0.agg) (h1 : a.eval x1 = k1.agg) (h2 : a.eval x2 = k2.agg) (h3 : a.eval x3 = k3.agg) : (execOp a.eval o).run Tryd.prog w = .ok (.value (.slice (some ⟨w.heap.size, 0, none⟩) 4 4)) (w.alloc (Obj.cells (flatK [k0, k1, k2, k3]).toArray 34)) := by
  have e : (Instr.buildSlice 49 4 #[(0, k0.agg), (1, k1.agg), (2, k2.agg), (3, k3.agg)]).run Tryd.prog w = .ok (.slice (some ⟨w.heap.size, 0, none⟩) 4 4) (w.alloc (Obj.cells (flatK [k0, k1, k2, k3]).toArray 34)) := by kernel_rfl
  unfold execOp
  simp only [ho]
  simp [h0, h1, h2, h3, e]
theorem mg21 : mg [2, 1] = [1, 2] := by
  unfold mg
  simp [List.mergeSort, List.MergeSort.Internal.splitInTwo, ltN]
theorem ix4 : ixs [nmK 0, nmK 1, nmK 2, nmK 3] = [2, 1] := by kernel_rfl
theorem ou4 : outK [1, 2] = [nmK 3, nmK 1] := by kernel_rfl
theorem st4 : strs [nmK 0, nmK 1, nmK 2, nmK 3] = [nmK 0, nmK 2] := by kernel_rfl
theorem sy4 : syms [nmK 0, nmK 1, nmK 2, nmK 3] = [] := by kernel_rfl
theorem ord_nm : ordK [nmK 0, nmK 1, nmK 2, nmK 3] = [nmK 3, nmK 1, nmK 0, nmK 2] := by
  unfold ordK
  rw [ix4, mg21, ou4, st4, sy4]
  rfl
theorem has_nm : (PN 4).has (nmK 1) = true := by kernel_rfl
theorem del_nm : ((PN 4).del (nmK 1)).l.length = 3 := by kernel_rfl
theorem reads4 {b : Nat} {X : World} {k0 k1 k2 k3 : KK} (h : Holds X b (flatK [k0, k1, k2, k3])) (hb : b < X.heap.size) : ReadsK X (.slice (some ⟨b, 0, none⟩) 4 4) [k0, k1, k2, k3] := by
  refine .inr ⟨b, 0, 4, rfl, hb, ?_⟩
  intro j hj
  have hj4 : j < 4 := hj
  have hcase : j = 0 ∨ j = 1 ∨ j = 2 ∨ j = 3 := by omega
  rcases hcase with rfl | rfl | rfl | rfl
  · exact h.mid 0 2
  · exact h.mid 2 2
  · exact h.mid 4 2
  · exact h.mid 6 2
theorem ok_nm (j : Nat) : OkK (nmK j) := by
  unfold nmK
  split <;> exact ⟨(by decide), rfl⟩
inductive WI (w : World) (T : TT) (B2 gm : Nat) (X : World) : Act → Prop where
  | mk (i : Nat) (T1 : TT) (u4 u5 u6 u7 u8 u9 u10 u11 u12 u13 u14 u15 u16 u17 u18 u19 u20 u21 u22 u23 u24 u25 u26 u27 u28 u29 u30 u31 u32 u33 u34 u35 u36 u37 u38 u39 u40 u41 u42 u43 u44 u45 u46 u47 u48 u49 u50 u51 u52 u53 u54 u55 u56 u57 u58 u59 u60 u61 u62 : Value) (hil : i ≤ 4) (hgm : 4 - i ≤ gm) (HI : Hid (RJ w X T T1 [(B2, nmCs)] (.slice none 0 0) [] [] ∧ abs T1 = PN i)) : WI w T B2 gm X { tmps := #[.bool false, .pointer (some ⟨T.t, 0, none⟩), .pointer (some ⟨B2, 0, none⟩), .int .i64 (i : Nat), u4, u5, u6, u7, u8, u9, u10, u11, u12, u13, u14, u15, u16, u17, u18, u19, u20, u21, u22, u23, u24, u25, u26, u27, u28, u29, u30, u31, u32, u33, u34, u35, u36, u37, u38, u39, u40, u41, u42, u43, u44, u45, u46, u47, u48, u49, u50, u51, u52, u53, u54, u55, u56, u57, u58, u59, u60, u61, u62], defers := [] }
theorem siz65 : (Tryd.prog.info? 65).map (·.size) = some 4 := by kernel_rfl
attribute [local go_sem] Oper.semAt_some
set_option maxHeartbeats 8000000 in
set_option maxRecDepth 100000 in
theorem works6 (w : World) (hU : Lib.Utf8Tabs 4 5 w) (hP : TabP w) : Calls Tryd.prog 6 #[] w fun e w' => e = .returned (.bool true) ∧ Below w.heap.size w w' := by
  have HU := hide hU
  have HP := hide hP
  clear hU hP
  go_enter Tryd.func6, Tryd.ntmps6
  go_wp2_with fail
  refine (new10 w).mono ?_
  rintro _ Y ⟨T, rfl, hT, hr, hl, hb, hbl⟩
  have LL : Hid (RJ Y Y T T [] (.slice none 0 0) [] []) := hide (RJ.start hT)
  have HA : Hid (abs T = PN 0) := hide (by unfold abs TT.live; rw [hr, hl]; rfl)
  have HB := hide (And.intro hb hbl)
  clear hT hr hl hb hbl
  have HUY : Hid (Lib.Utf8Tabs 4 5 Y) := hide (tabs_below (unhide HU) (unhide HB).2)
  have H6 : Hid (∀ b ∈ T.blocks, 6 ≤ b) := hide (fun b hb => Nat.le_trans (tabs_size (unhide HU)) ((unhide HB).1 b hb))
  go_wp2_with (first | go_skip | ((with_reducible show wpList _ _ _ _ _ _); first | ((refine alK (v := .agg ([.string ⟨#[]⟩, .string ⟨#[]⟩, .string ⟨#[]⟩, .string ⟨#[]⟩]).toArray) 65 ([.string ⟨#[]⟩, .string ⟨#[]⟩, .string ⟨#[]⟩, .string ⟨#[]⟩]) (by rfl) rfl (fun w => by kernel_rfl) rfl (Nat.succ_pos _) (unhide LL) ?_); intro X2 B2 hB2 L2; replace hB2 := hide hB2; replace LL := hide L2; clear L2; simp only [Act.put, List.setIfInBounds_toArray, List.set_cons_succ, List.set_cons_zero]) | ((refine stK (vs := [.string ⟨#[98]⟩, .string ⟨#[50]⟩, .string ⟨#[97]⟩, .string ⟨#[49]⟩]) 0 65 (by rfl) rfl rfl rfl rfl (by simp [Value.oneCell']) siz65 (unhide LL) rfl (by simp [cput, zeroAct, actCs, zeroK, zeroD, KK.cs, DD.cs, VV.cs]) (unhide hB2) ?_); intro X3 L3; replace LL := hide L3; clear L3; simp only [Act.put, List.setIfInBounds_toArray, List.set_cons_succ, List.set_cons_zero])))
  refine wp_loop_ghost_k (fun gm a X => WI Y T B2 gm X a) 4 ?start ?round
  case start => exact WI.mk 0 T _ _ _ _ _ _ _ _ _ _ _ _ _ _ _ _ _ _ _ _ _ _ _ _ _ _ _ _ _ _ _ _ _ _ _ _ _ _ _ _ _ _ _ _ _ _ _ _ _ _ _ _ _ _ _ _ _ _ _ (Nat.zero_le _) (Nat.le_refl _) (hide ⟨unhide LL, unhide HA⟩)
  case round =>
    clear LL
    intro gm a X hin J K hJ hK
    obtain ⟨i, T1, u4, u5, u6, u7, u8, u9, u10, u11, u12, u13, u14, u15, u16, u17, u18, u19, u20, u21, u22, u23, u24, u25, u26, u27, u28, u29, u30, u31, u32, u33, u34, u35, u36, u37, u38, u39, u40, u41, u42, u43, u44, u45, u46, u47, u48, u49, u50, u51, u52, u53, u54, u55, u56, u57, u58, u59, u60, u61, u62, hil, hgm, HI⟩ := hin
    have LL := hide (unhide HI).1
    by_cases hlt : i < 4
    · have hi4 : i = 0 ∨ i = 1 ∨ i = 2 ∨ i = 3 := by omega
      clear hlt
      rcases hi4 with rfl | rfl | rfl | rfl
      · have HLT1 : Hid (T1.last < 1000000) := hide (by have h1 := congrArg AS.last (unhide HI).2; have h2 : (PN 0).last = 0 := (by kernel_rfl); rw [h2] at h1; show T1.last < 1000000; have h3 : T1.last = 0 := h1; omega)
        go_wp2_with (first | go_skip | ((with_reducible show wpList _ _ _ _ _ _); first | ((refine vl (by rfl) (ex_load1 9 Tryd.isAgg9 rfl rfl ((unhide LL).get 0 rfl) rfl) ?_); simp only [Act.put, List.setIfInBounds_toArray, List.set_cons_succ, List.set_cons_zero])))
        refine (str26 _ _).mono ?_
        rintro _ Y1 ⟨rfl, hb1⟩
        replace LL := hide ((unhide LL).on hb1)
        clear hb1
        go_wp2_with fail
        have HPT := hide (put12e T1 (nmK 0) zeroD _ (unhide LL).ri.is (tabs_fr (unhide HUY) (unhide LL).fr (unhide H6)) (ok_nm 0) (unhide HLT1) (fun b hb => by rcases (unhide LL).ri.new b hb with h | h; exact unhide H6 b h; have := tabs_size (unhide HUY); omega))
        rw [(unhide LL).ri.tq] at HPT
        refine (unhide HPT).mono ?_
        rintro _ Y2 ⟨rfl, T2, hT2, ht2, hf2, hb2, hp2⟩
        have HF : Hid (abs T2 = PN 1) := hide (by rw [abs_put (unhide LL).ri.is hp2, (unhide HI).2]; rfl)
        replace LL := hide ((unhide LL).step hT2 (ht2.trans (unhide LL).ri.tq.symm) hf2 hb2)
        clear hT2 ht2 hf2 hb2 hp2 HPT
        rw [show errOf (nmK 0) = 0 from by kernel_rfl]
        go_wp2_with fail
        refine (num11 0 (by omega) _).mono ?_
        rintro _ Y3 ⟨rfl, hbn⟩
        replace LL := hide ((unhide LL).on hbn)
        clear hbn
        go_wp2_with fail
        exact (Handed.intro (4 - 1) (by omega) (hJ _ _ _ (WI.mk 1 T2 _ _ _ _ _ _ _ _ _ _ _ _ _ _ _ _ _ _ _ _ _ _ _ _ _ _ _ _ _ _ _ _ _ _ _ _ _ _ _ _ _ _ _ _ _ _ _ _ _ _ _ _ _ _ _ _ _ _ _ (by omega) (by omega) (hide ⟨unhide LL, unhide HF⟩))))
      · have HLT1 : Hid (T1.last < 1000000) := hide (by have h1 := congrArg AS.last (unhide HI).2; have h2 : (PN 1).last = 1 := (by kernel_rfl); rw [h2] at h1; show T1.last < 1000000; have h3 : T1.last = 1 := h1; omega)
        go_wp2_with (first | go_skip | ((with_reducible show wpList _ _ _ _ _ _); first | ((refine vl (by rfl) (ex_load1 9 Tryd.isAgg9 rfl rfl ((unhide LL).get 0 rfl) rfl) ?_); simp only [Act.put, List.setIfInBounds_toArray, List.set_cons_succ, List.set_cons_zero])))
        refine (str26 _ _).mono ?_
        rintro _ Y1 ⟨rfl, hb1⟩
        replace LL := hide ((unhide LL).on hb1)
        clear hb1
        go_wp2_with fail
        have HPT := hide (put12e T1 (nmK 1) zeroD _ (unhide LL).ri.is (tabs_fr (unhide HUY) (unhide LL).fr (unhide H6)) (ok_nm 1) (unhide HLT1) (fun b hb => by rcases (unhide LL).ri.new b hb with h | h; exact unhide H6 b h; have := tabs_size (unhide HUY); omega))
        rw [(unhide LL).ri.tq] at HPT
        refine (unhide HPT).mono ?_
        rintro _ Y2 ⟨rfl, T2, hT2, ht2, hf2, hb2, hp2⟩
        have HF : Hid (abs T2 = PN 2) := hide (by rw [abs_put (unhide LL).ri.is hp2, (unhide HI).2]; rfl)
        replace LL := hide ((unhide LL).step hT2 (ht2.trans (unhide LL).ri.tq.symm) hf2 hb2)
        clear hT2 ht2 hf2 hb2 hp2 HPT
        rw [show errOf (nmK 1) = 0 from by kernel_rfl]
        go_wp2_with fail
        refine (num11 0 (by omega) _).mono ?_
        rintro _ Y3 ⟨rfl, hbn⟩
        replace LL := hide ((unhide LL).on hbn)
        clear hbn
        go_wp2_with fail
        exact (Handed.intro (4 - 2) (by omega) (hJ _ _ _ (WI.mk 2 T2 _ _ _ _ _ _ _ _ _ _ _ _ _ _ _ _ _ _ _ _ _ _ _ _ _ _ _ _ _ _ _ _ _ _ _ _ _ _ _ _ _ _ _ _ _ _ _ _ _ _ _ _ _ _ _ _ _ _ _ (by omega) (by omega) (hide ⟨unhide LL, unhide HF⟩))))
      · have HLT1 : Hid (T1.last < 1000000) := hide (by have h1 := congrArg AS.last (unhide HI).2; have h2 : (PN 2).last = 2 := (by kernel_rfl); rw [h2] at h1; show T1.last < 1000000; have h3 : T1.last = 2 := h1; omega)
        go_wp2_with (first | go_skip | ((with_reducible show wpList _ _ _ _ _ _); first | ((refine vl (by rfl) (ex_load1 9 Tryd.isAgg9 rfl rfl ((unhide LL).get 0 rfl) rfl) ?_); simp only [Act.put, List.setIfInBounds_toArray, List.set_cons_succ, List.set_cons_zero])))
        refine (str26 _ _).mono ?_
        rintro _ Y1 ⟨rfl, hb1⟩
        replace LL := hide ((unhide LL).on hb1)
        clear hb1
        go_wp2_with fail
        have HPT := hide (put12e T1 (nmK 2) zeroD _ (unhide LL).ri.is (tabs_fr (unhide HUY) (unhide LL).fr (unhide H6)) (ok_nm 2) (unhide HLT1) (fun b hb => by rcases (unhide LL).ri.new b hb with h | h; exact unhide H6 b h; have := tabs_size (unhide HUY); omega))
        rw [(unhide LL).ri.tq] at HPT
        refine (unhide HPT).mono ?_
        rintro _ Y2 ⟨rfl, T2, hT2, ht2, hf2, hb2, hp2⟩
        have HF : Hid (abs T2 = PN 3) := hide (by rw [abs_put (unhide LL).ri.is hp2, (unhide HI).2]; rfl)
        replace LL := hide ((unhide LL).step hT2 (ht2.trans (unhide LL).ri.tq.symm) hf2 hb2)
        clear hT2 ht2 hf2 hb2 hp2 HPT
        rw [show errOf (nmK 2) = 0 from by kernel_rfl]
        go_wp2_with fail
        refine (num11 0 (by omega) _).mono ?_
        rintro _ Y3 ⟨rfl, hbn⟩
        replace LL := hide ((unhide LL).on hbn)
        clear hbn
        go_wp2_with fail
        exact (Handed.intro (4 - 3) (by omega) (hJ _ _ _ (WI.mk 3 T2 _ _ _ _ _ _ _ _ _ _ _ _ _ _ _ _ _ _ _ _ _ _ _ _ _ _ _ _ _ _ _ _ _ _ _ _ _ _ _ _ _ _ _ _ _ _ _ _ _ _ _ _ _ _ _ _ _ _ _ (by omega) (by omega) (hide ⟨unhide LL, unhide HF⟩))))
      · have HLT1 : Hid (T1.last < 1000000) := hide (by have h1 := congrArg AS.last (unhide HI).2; have h2 : (PN 3).last = 3 := (by kernel_rfl); rw [h2] at h1; show T1.last < 1000000; have h3 : T1.last = 3 := h1; omega)
        go_wp2_with (first | go_skip | ((with_reducible show wpList _ _ _ _ _ _); first | ((refine vl (by rfl) (ex_load1 9 Tryd.isAgg9 rfl rfl ((unhide LL).get 0 rfl) rfl) ?_); simp only [Act.put, List.setIfInBounds_toArray, List.set_cons_succ, List.set_cons_zero])))
        refine (str26 _ _).mono ?_
        rintro _ Y1 ⟨rfl, hb1⟩
        replace LL := hide ((unhide LL).on hb1)
        clear hb1
        go_wp2_with fail
        have HPT := hide (put12e T1 (nmK 3) zeroD _ (unhide LL).ri.is (tabs_fr (unhide HUY) (unhide LL).fr (unhide H6)) (ok_nm 3) (unhide HLT1) (fun b hb => by rcases (unhide LL).ri.new b hb with h | h; exact unhide H6 b h; have := tabs_size (unhide HUY); omega))
        rw [(unhide LL).ri.tq] at HPT
        refine (unhide HPT).mono ?_
        rintro _ Y2 ⟨rfl, T2, hT2, ht2, hf2, hb2, hp2⟩
        have HF : Hid (abs T2 = PN 4) := hide (by rw [abs_put (unhide LL).ri.is hp2, (unhide HI).2]; rfl)
        replace LL := hide ((unhide LL).step hT2 (ht2.trans (unhide LL).ri.tq.symm) hf2 hb2)
        clear hT2 ht2 hf2 hb2 hp2 HPT
        rw [show errOf (nmK 3) = 0 from by kernel_rfl]
        go_wp2_with fail
        refine (num11 0 (by omega) _).mono ?_
        rintro _ Y3 ⟨rfl, hbn⟩
        replace LL := hide ((unhide LL).on hbn)
        clear hbn
        go_wp2_with fail
        exact (Handed.intro (4 - 4) (by omega) (hJ _ _ _ (WI.mk 4 T2 _ _ _ _ _ _ _ _ _ _ _ _ _ _ _ _ _ _ _ _ _ _ _ _ _ _ _ _ _ _ _ _ _ _ _ _ _ _ _ _ _ _ _ _ _ _ _ _ _ _ _ _ _ _ _ _ _ _ _ (by omega) (by omega) (hide ⟨unhide LL, unhide HF⟩))))
    · obtain rfl : i = 4 := by omega
      clear hlt hil hgm
      have hA4 := (unhide HI).2
      have h1 : (abs T1).l.length = 4 := by rw [hA4]; kernel_rfl
      have h2 : (abs T1).l.map (fun e => e.1) = [nmK 0, nmK 1, nmK 2, nmK 3] := by rw [hA4]; kernel_rfl
      have h3 : (abs T1).l.map (fun e => (e.1, e.2.1)) = [(nmK 0, zeroD), (nmK 1, zeroD), (nmK 2, zeroD), (nmK 3, zeroD)] := by rw [hA4]; kernel_rfl
      have h4 : (abs T1).last = 4 := by rw [hA4]; kernel_rfl
      have HLE : Hid (T1.live.length = 4) := hide (by rw [← h1]; simp [abs])
      have HKS : Hid (T1.live.map (fun r => r.k) = [nmK 0, nmK 1, nmK 2, nmK 3]) := hide (by rw [← h2]; simp [abs, enOf])
      have HPS : Hid (T1.live.map RR.pr = [(nmK 0, zeroD), (nmK 1, zeroD), (nmK 2, zeroD), (nmK 3, zeroD)]) := hide (by rw [← h3]; simp only [abs, List.map_map]; rfl)
      have HLA : Hid (T1.last = 4) := hide h4
      clear h1 h2 h3 h4 hA4
      have HPR := hide (props27 T1 X (unhide LL).ri.is (by have := unhide HLA; omega) (by have := unhide HLE; omega))
      rw [(unhide LL).ri.tq, unhide HLE, unhide HPS] at HPR
      go_wp2_with fail
      refine (unhide HPR).mono ?_
      rintro _ Z ⟨pw, rfl, hpw, hbz⟩
      rcases hpw.2 with ⟨-, h0⟩ | ⟨g, cap, cur, rfl, hg1, hg2, -⟩
      · exact absurd h0 (by simp [flatP, KK.cs])
      · have hf : ∀ x : KK × DD, ((fun x : KK × DD => x.1.cs ++ x.2.cs) x).length = 20 := fun _ => rfl
        have hrp : RowsP Z g [(nmK 0, zeroD), (nmK 1, zeroD), (nmK 2, zeroD), (nmK 3, zeroD)] := own_rows hf hpw
        have HGN : Hid (g ∉ T1.blocks) := hide (fun hm => by have h5 := (unhide LL).ri.is.lt g hm; omega)
        have HGZ : Hid (g < Z.heap.size) := hide (Array.getElem?_eq_some_iff.1 hg2).1
        replace LL := hide ((unhide LL).on hbz)
        have HRP := hide hrp
        clear hrp hpw hbz hg1 hg2 HPR
        go_wp2_with fail
        have hq0 := (unhide LL).drew
        have hr0 : RowsP Z.drew g [(nmK 0, zeroD), (nmK 1, zeroD), (nmK 2, zeroD), (nmK 3, zeroD)] := (unhide HRP).keep rfl
        have hs0 : (∃ T9, RI Y Z.drew T T9 [(B2, nmCs)]) ∧ RowsP Z.drew g [(nmK 0, zeroD), (nmK 1, zeroD), (nmK 2, zeroD), (nmK 3, zeroD)] := ⟨⟨_, hq0.ri⟩, hr0⟩
        refine wp_region_held_drew (P := Tryd.prog) (S := fun X => (∃ T9, RI Y X T T9 [(B2, nmCs)]) ∧ RowsP X g [(nmK 0, zeroD), (nmK 1, zeroD), (nmK 2, zeroD), (nmK 3, zeroD)]) (by kernel_rfl) hs0 (fun hS0 => ?_)
        refine gsem 0 (some 24) (.slice (some ⟨g, 0, none⟩) 4 cap) rfl (by kernel_rfl) (by kernel_rfl) (by kernel_rfl) (fun _ _ _ h => h) (by kernel_rfl) (by kernel_rfl) (fun _ _ => by kernel_rfl) hs0 ?_
        simp only [Act.put, List.setIfInBounds_toArray, List.set_cons_succ, List.set_cons_zero]
        refine gsem 1 (some 25) (.int .i64 (4 : Nat)) rfl (by kernel_rfl) (by kernel_rfl) (by kernel_rfl) (fun _ _ _ h => h) (by kernel_rfl) (by kernel_rfl) (fun X hX => ex_lenG 25 54 Tryd.underlying25 rfl rfl) hs0 ?_
        simp only [Act.put, List.setIfInBounds_toArray, List.set_cons_succ, List.set_cons_zero]
        refine gsem 2 (some 26) (.bool true) rfl (by kernel_rfl) (by kernel_rfl) (by kernel_rfl) (fun _ _ _ h => h) (by kernel_rfl) (by kernel_rfl) (fun _ _ => by kernel_rfl) hs0 ?_
        simp only [Act.put, List.setIfInBounds_toArray, List.set_cons_succ, List.set_cons_zero]
        refine gsem 3 (some 27) (.bool true) rfl (by kernel_rfl) (by kernel_rfl) (by kernel_rfl) (fun _ _ _ h => h) (by kernel_rfl) (by kernel_rfl) (fun _ _ => by kernel_rfl) hs0 ?_
        simp only [Act.put, List.setIfInBounds_toArray, List.set_cons_succ, List.set_cons_zero]
        refine gsem 4 (some 28) (.slice (some ⟨g, 0, none⟩) 4 cap) rfl (by kernel_rfl) (by kernel_rfl) (by kernel_rfl) (fun _ _ _ h => h) (by kernel_rfl) (by kernel_rfl) (fun _ _ => by kernel_rfl) hs0 ?_
        simp only [Act.put, List.setIfInBounds_toArray, List.set_cons_succ, List.set_cons_zero]
        refine gsem 5 (some 29) (.pointer (some ⟨g, 0 * 20, none⟩)) rfl (by kernel_rfl) (by kernel_rfl) (by kernel_rfl) (fun _ _ _ h => h) (by kernel_rfl) (by kernel_rfl) (fun X hX => ex_index61 0 rfl rfl rfl (by decide)) hs0 ?_
        simp only [Act.put, List.setIfInBounds_toArray, List.set_cons_succ, List.set_cons_zero]
        refine gsem 6 (some 30) (.pointer (some ⟨g, 0 * 20 + 0, none⟩)) rfl (by kernel_rfl) (by kernel_rfl) (by kernel_rfl) (fun _ _ _ h => h) (by kernel_rfl) (by kernel_rfl) (fun _ _ => by kernel_rfl) hs0 ?_
        simp only [Act.put, List.setIfInBounds_toArray, List.set_cons_succ, List.set_cons_zero]
        refine gsem 7 (some 31) (.agg (nmK 0).cs.toArray) rfl (by kernel_rfl) (by kernel_rfl) (by kernel_rfl) (fun _ _ _ h => h) (by kernel_rfl) (by kernel_rfl) (fun X hX => ex_loadR (vs := (nmK 0).cs) 34 2 row33x siz33 rfl rfl (range_left (hX.2 0 (by decide))) rfl) hs0 ?_
        simp only [Act.put, List.setIfInBounds_toArray, List.set_cons_succ, List.set_cons_zero]
        have hg0 : g < Z.drew.heap.size := unhide HGZ
        refine wpAnyH_ready (rs := [8]) (by kernel_rfl) (by simp) (gcallR 8 (some 32) rfl (by kernel_rfl) (by kernel_rfl) (by kernel_rfl) (str26 ⟨#[98]⟩ _) ?_ AllReadyH.nil)
        rintro _ Y8 ⟨rfl, hb8⟩
        have hq8 := hq0.on hb8
        have hr8 := hr0.keep (hb8.block g hg0)
        have hg8 := Nat.lt_of_lt_of_le hg0 hb8.size
        refine ⟨_, rfl, ⟨⟨_, hq8.ri⟩, hr8⟩, ?_⟩
        simp only [Act.put, List.setIfInBounds_toArray, List.set_cons_succ, List.set_cons_zero]
        refine gsem 9 (some 33) (.bool true) rfl (by kernel_rfl) (by kernel_rfl) (by kernel_rfl) (fun _ _ _ h => h) (by kernel_rfl) (by kernel_rfl) (fun _ _ => by kernel_rfl) ⟨⟨_, hq8.ri⟩, hr8⟩ ?_
        simp only [Act.put, List.setIfInBounds_toArray, List.set_cons_succ, List.set_cons_zero]
        refine gsem 10 (some 34) (.bool true) rfl (by kernel_rfl) (by kernel_rfl) (by kernel_rfl) (fun _ _ _ h => h) (by kernel_rfl) (by kernel_rfl) (fun _ _ => by kernel_rfl) ⟨⟨_, hq8.ri⟩, hr8⟩ ?_
        simp only [Act.put, List.setIfInBounds_toArray, List.set_cons_succ, List.set_cons_zero]
        refine gsem 11 (some 35) (.bool true) rfl (by kernel_rfl) (by kernel_rfl) (by kernel_rfl) (fun _ _ _ h => h) (by kernel_rfl) (by kernel_rfl) (fun _ _ => by kernel_rfl) ⟨⟨_, hq8.ri⟩, hr8⟩ ?_
        simp only [Act.put, List.setIfInBounds_toArray, List.set_cons_succ, List.set_cons_zero]
        refine gsem 12 (some 36) (.slice (some ⟨g, 0, none⟩) 4 cap) rfl (by kernel_rfl) (by kernel_rfl) (by kernel_rfl) (fun _ _ _ h => h) (by kernel_rfl) (by kernel_rfl) (fun _ _ => by kernel_rfl) ⟨⟨_, hq8.ri⟩, hr8⟩ ?_
        simp only [Act.put, List.setIfInBounds_toArray, List.set_cons_succ, List.set_cons_zero]
        refine gsem 13 (some 37) (.pointer (some ⟨g, 3 * 20, none⟩)) rfl (by kernel_rfl) (by kernel_rfl) (by kernel_rfl) (fun _ _ _ h => h) (by kernel_rfl) (by kernel_rfl) (fun X hX => ex_index61 3 rfl rfl rfl (by decide)) ⟨⟨_, hq8.ri⟩, hr8⟩ ?_
        simp only [Act.put, List.setIfInBounds_toArray, List.set_cons_succ, List.set_cons_zero]
        refine gsem 14 (some 38) (.pointer (some ⟨g, 3 * 20 + 0, none⟩)) rfl (by kernel_rfl) (by kernel_rfl) (by kernel_rfl) (fun _ _ _ h => h) (by kernel_rfl) (by kernel_rfl) (fun _ _ => by kernel_rfl) ⟨⟨_, hq8.ri⟩, hr8⟩ ?_
        simp only [Act.put, List.setIfInBounds_toArray, List.set_cons_succ, List.set_cons_zero]
        refine gsem 15 (some 39) (.agg (nmK 3).cs.toArray) rfl (by kernel_rfl) (by kernel_rfl) (by kernel_rfl) (fun _ _ _ h => h) (by kernel_rfl) (by kernel_rfl) (fun X hX => ex_loadR (vs := (nmK 3).cs) 34 2 row33x siz33 rfl rfl (range_left (hX.2 3 (by decide))) rfl) ⟨⟨_, hq8.ri⟩, hr8⟩ ?_
        simp only [Act.put, List.setIfInBounds_toArray, List.set_cons_succ, List.set_cons_zero]
        refine wpAnyH_ready (rs := [16]) (by kernel_rfl) (by simp) (gcallR 16 (some 40) rfl (by kernel_rfl) (by kernel_rfl) (by kernel_rfl) (str26 ⟨#[49]⟩ _) ?_ AllReadyH.nil)
        rintro _ Y16 ⟨rfl, hb16⟩
        have hq16 := hq8.on hb16
        have hr16 := hr8.keep (hb16.block g hg8)
        have hg16 := Nat.lt_of_lt_of_le hg8 hb16.size
        refine ⟨_, rfl, ⟨⟨_, hq16.ri⟩, hr16⟩, ?_⟩
        simp only [Act.put, List.setIfInBounds_toArray, List.set_cons_succ, List.set_cons_zero]
        refine gsem 17 (some 41) (.bool true) rfl (by kernel_rfl) (by kernel_rfl) (by kernel_rfl) (fun _ _ _ h => h) (by kernel_rfl) (by kernel_rfl) (fun _ _ => by kernel_rfl) ⟨⟨_, hq16.ri⟩, hr16⟩ ?_
        simp only [Act.put, List.setIfInBounds_toArray, List.set_cons_succ, List.set_cons_zero]
        refine gsem 18 (some 42) (.bool true) rfl (by kernel_rfl) (by kernel_rfl) (by kernel_rfl) (fun _ _ _ h => h) (by kernel_rfl) (by kernel_rfl) (fun _ _ => by kernel_rfl) ⟨⟨_, hq16.ri⟩, hr16⟩ ?_
        simp only [Act.put, List.setIfInBounds_toArray, List.set_cons_succ, List.set_cons_zero]
        refine gsem 19 (some 43) (.bool true) rfl (by kernel_rfl) (by kernel_rfl) (by kernel_rfl) (fun _ _ _ h => h) (by kernel_rfl) (by kernel_rfl) (fun _ _ => by kernel_rfl) ⟨⟨_, hq16.ri⟩, hr16⟩ ?_
        simp only [Act.put, List.setIfInBounds_toArray, List.set_cons_succ, List.set_cons_zero]
        refine gsem 20 (some 44) (.pointer (some ⟨T.t, 0, none⟩)) rfl (by kernel_rfl) (by kernel_rfl) (by kernel_rfl) (fun _ _ _ h => h) (by kernel_rfl) (by kernel_rfl) (fun _ _ => by kernel_rfl) ⟨⟨_, hq16.ri⟩, hr16⟩ ?_
        simp only [Act.put, List.setIfInBounds_toArray, List.set_cons_succ, List.set_cons_zero]
        have hpx : TabP Y16 := tabP_eq (unhide HP) (fun b hb => (hq16.fr.block b (Nat.lt_of_lt_of_le hb (unhide HB).2.size) (fun hm => by have := (unhide HB).1 b hm; omega)).trans ((unhide HB).2.block b hb))
        have HKY := hide (keys28 T1 Y16 hq16.ri.is (by have := unhide HLA; omega) (by have := unhide HLE; omega) (tabs_fr (unhide HUY) hq16.fr (unhide H6)) hpx)
        rw [hq16.ri.tq, unhide HKS, ord_nm] at HKY
        refine wpAnyH_ready (rs := [21]) (by kernel_rfl) (by simp) (gcallR 21 (some 45) rfl (by kernel_rfl) (by kernel_rfl) (by kernel_rfl) (unhide HKY) ?_ AllReadyH.nil)
        rintro _ Y21 ⟨kv, rfl, hk21, hb21⟩
        have hq21 := hq16.on hb21
        have hr21 := hr16.keep (hb21.block g hg16)
        have hg21 := Nat.lt_of_lt_of_le hg16 hb21.size
        refine ⟨_, rfl, ⟨⟨_, hq21.ri⟩, hr21⟩, ?_⟩
        simp only [Act.put, List.setIfInBounds_toArray, List.set_cons_succ, List.set_cons_zero]
        refine wpAnyH_ready (rs := [22]) (by kernel_rfl) (by simp) (gcallR 22 (some 46) rfl (by kernel_rfl) (by kernel_rfl) (by kernel_rfl) (str26 ⟨#[49]⟩ _) ?_ AllReadyH.nil)
        rintro _ Y22 ⟨rfl, hb22⟩
        have hq22 := hq21.on hb22
        have hr22 := hr21.keep (hb22.block g hg21)
        have hg22 := Nat.lt_of_lt_of_le hg21 hb22.size
        have hk22 := hk21.on hb22
        refine ⟨_, rfl, ⟨⟨_, hq22.ri⟩, hr22⟩, ?_⟩
        simp only [Act.put, List.setIfInBounds_toArray, List.set_cons_succ, List.set_cons_zero]
        refine wpAnyH_ready (rs := [23]) (by kernel_rfl) (by simp) (gcallR 23 (some 47) rfl (by kernel_rfl) (by kernel_rfl) (by kernel_rfl) (str26 ⟨#[50]⟩ _) ?_ AllReadyH.nil)
        rintro _ Y23 ⟨rfl, hb23⟩
        have hq23 := hq22.on hb23
        have hr23 := hr22.keep (hb23.block g hg22)
        have hg23 := Nat.lt_of_lt_of_le hg22 hb23.size
        have hk23 := hk22.on hb23
        refine ⟨_, rfl, ⟨⟨_, hq23.ri⟩, hr23⟩, ?_⟩
        simp only [Act.put, List.setIfInBounds_toArray, List.set_cons_succ, List.set_cons_zero]
        refine wpAnyH_ready (rs := [24]) (by kernel_rfl) (by simp) (gcallR 24 (some 48) rfl (by kernel_rfl) (by kernel_rfl) (by kernel_rfl) (str26 ⟨#[98]⟩ _) ?_ AllReadyH.nil)
        rintro _ Y24 ⟨rfl, hb24⟩
        have hq24 := hq23.on hb24
        have hr24 := hr23.keep (hb24.block g hg23)
        have hg24 := Nat.lt_of_lt_of_le hg23 hb24.size
        have hk24 := hk23.on hb24
        refine ⟨_, rfl, ⟨⟨_, hq24.ri⟩, hr24⟩, ?_⟩
        simp only [Act.put, List.setIfInBounds_toArray, List.set_cons_succ, List.set_cons_zero]
        refine wpAnyH_ready (rs := [25]) (by kernel_rfl) (by simp) (gcallR 25 (some 49) rfl (by kernel_rfl) (by kernel_rfl) (by kernel_rfl) (str26 ⟨#[97]⟩ _) ?_ AllReadyH.nil)
        rintro _ Y25 ⟨rfl, hb25⟩
        have hq25 := hq24.on hb25
        have hr25 := hr24.keep (hb25.block g hg24)
        have hg25 := Nat.lt_of_lt_of_le hg24 hb25.size
        have hk25 := hk24.on hb25
        refine ⟨_, rfl, ⟨⟨_, hq25.ri⟩, hr25⟩, ?_⟩
        simp only [Act.put, List.setIfInBounds_toArray, List.set_cons_succ, List.set_cons_zero]
        have hI26 := Holds.new Y25 (flatK [nmK 3, nmK 1, nmK 0, nmK 2]) 34
        have hb26 : Below Y25.heap.size Y25 (Y25.alloc (Obj.cells (flatK [nmK 3, nmK 1, nmK 0, nmK 2]).toArray 34)) := (Below.refl _ _).alloc (Nat.le_refl _) _
        have hq26 := hq25.on hb26
        have hr26 := hr25.keep (hb26.block g hg25)
        have hg26 := Nat.lt_of_lt_of_le hg25 hb26.size
        have hk26 := hk25.on hb26
        have hd26 := reads4 hI26 (by simp)
        refine wpAnyH_ready (rs := [26]) (by kernel_rfl) (by simp) (gval 26 (some 50) rfl (by kernel_rfl) (by kernel_rfl) (ex_build4K (nmK 3) (nmK 1) (nmK 0) (nmK 2) rfl rfl rfl rfl rfl) ⟨⟨_, hq26.ri⟩, hr26⟩ ?_ AllReadyH.nil)
        simp only [Act.put, List.setIfInBounds_toArray, List.set_cons_succ, List.set_cons_zero]
        refine wpAnyH_ready (rs := [27]) (by kernel_rfl) (by simp) (gcallR 27 (some 51) rfl (by kernel_rfl) (by kernel_rfl) (by kernel_rfl) (sameKeys32 kv (.slice (some ⟨Y25.heap.size, 0, none⟩) 4 4) [nmK 3, nmK 1, nmK 0, nmK 2] _ hk26.reads hd26 (by decide)) ?_ AllReadyH.nil)
        rintro _ Y27 ⟨rfl, hb27⟩
        have hq27 := hq26.on hb27
        have hr27 := hr26.keep (hb27.block g hg26)
        have hg27 := Nat.lt_of_lt_of_le hg26 hb27.size
        refine ⟨_, rfl, ⟨⟨_, hq27.ri⟩, hr27⟩, ?_⟩
        simp only [Act.put, List.setIfInBounds_toArray, List.set_cons_succ, List.set_cons_zero]
        refine gsem 28 (some 52) (.bool true) rfl (by kernel_rfl) (by kernel_rfl) (by kernel_rfl) (fun _ _ _ h => h) (by kernel_rfl) (by kernel_rfl) (fun _ _ => by kernel_rfl) ⟨⟨_, hq27.ri⟩, hr27⟩ ?_
        simp only [Act.put, List.setIfInBounds_toArray, List.set_cons_succ, List.set_cons_zero]
        refine gsem 29 (some 53) (.bool true) rfl (by kernel_rfl) (by kernel_rfl) (by kernel_rfl) (fun _ _ _ h => h) (by kernel_rfl) (by kernel_rfl) (fun _ _ => by kernel_rfl) ⟨⟨_, hq27.ri⟩, hr27⟩ ?_
        simp only [Act.put, List.setIfInBounds_toArray, List.set_cons_succ, List.set_cons_zero]
        refine gsem 30 (some 54) (.pointer (some ⟨T.t, 0, none⟩)) rfl (by kernel_rfl) (by kernel_rfl) (by kernel_rfl) (fun _ _ _ h => h) (by kernel_rfl) (by kernel_rfl) (fun _ _ => by kernel_rfl) ⟨⟨_, hq27.ri⟩, hr27⟩ ?_
        simp only [Act.put, List.setIfInBounds_toArray, List.set_cons_succ, List.set_cons_zero]
        refine wpAnyH_ready (rs := [31]) (by kernel_rfl) (by simp) (gcallR 31 (some 55) rfl (by kernel_rfl) (by kernel_rfl) (by kernel_rfl) (str26 ⟨#[50]⟩ _) ?_ AllReadyH.nil)
        rintro _ Y31 ⟨rfl, hb31⟩
        have hq31 := hq27.on hb31
        have hr31 := hr27.keep (hb31.block g hg27)
        have hg31 := Nat.lt_of_lt_of_le hg27 hb31.size
        refine ⟨_, rfl, ⟨⟨_, hq31.ri⟩, hr31⟩, ?_⟩
        simp only [Act.put, List.setIfInBounds_toArray, List.set_cons_succ, List.set_cons_zero]
        have hfd : (T1.find (nmK 1)).isSome = true := by rw [← abs_has, (unhide HI).2]; exact has_nm
        have HDL := hide (deleteN T1 (nmK 1) Y31 hq31.ri.is (ok_nm 1) (by have := unhide HLA; omega))
        rw [hq31.ri.tq, hfd] at HDL
        refine wpAnyH_ready (rs := [32]) (by kernel_rfl) (by simp) (gcallR 32 (some 56) rfl (by kernel_rfl) (by kernel_rfl) (by kernel_rfl) (unhide HDL) ?_ AllReadyH.nil)
        rintro _ Y32 ⟨rfl, T2, hT2, ht2, hn2, hf2, hb2, hl2, -⟩
        have hq32 := hq31.step hT2 (ht2.trans hq31.ri.tq.symm) hf2 hb2
        have hr32 := hr31.keep (hf2.block g hg31 (unhide HGN))
        have h3 : T2.live.length = 3 := by have h5 := congrArg (fun s : AS => s.l.length) (abs_del hl2 hn2); rw [(unhide HI).2] at h5; have h6 : (abs T2).l.length = 3 := h5.trans del_nm; rw [← h6]; simp [abs]
        refine ⟨_, rfl, ⟨⟨_, hq32.ri⟩, hr32⟩, ?_⟩
        simp only [Act.put, List.setIfInBounds_toArray, List.set_cons_succ, List.set_cons_zero]
        refine gsem 33 (some 57) (.bool true) rfl (by kernel_rfl) (by kernel_rfl) (by kernel_rfl) (fun _ _ _ h => h) (by kernel_rfl) (by kernel_rfl) (fun _ _ => by kernel_rfl) ⟨⟨_, hq32.ri⟩, hr32⟩ ?_
        simp only [Act.put, List.setIfInBounds_toArray, List.set_cons_succ, List.set_cons_zero]
        refine gsem 34 (some 58) (.bool true) rfl (by kernel_rfl) (by kernel_rfl) (by kernel_rfl) (fun _ _ _ h => h) (by kernel_rfl) (by kernel_rfl) (fun _ _ => by kernel_rfl) ⟨⟨_, hq32.ri⟩, hr32⟩ ?_
        simp only [Act.put, List.setIfInBounds_toArray, List.set_cons_succ, List.set_cons_zero]
        refine gsem 35 (some 59) (.pointer (some ⟨T.t, 0, none⟩)) rfl (by kernel_rfl) (by kernel_rfl) (by kernel_rfl) (fun _ _ _ h => h) (by kernel_rfl) (by kernel_rfl) (fun _ _ => by kernel_rfl) ⟨⟨_, hq32.ri⟩, hr32⟩ ?_
        simp only [Act.put, List.setIfInBounds_toArray, List.set_cons_succ, List.set_cons_zero]
        have HLN := hide (len30 T2 _ hq32.ri.is)
        rw [hq32.ri.tq, h3] at HLN
        refine wpAnyH_ready (rs := [36]) (by kernel_rfl) (by simp) (gcallR 36 (some 60) rfl (by kernel_rfl) (by kernel_rfl) (by kernel_rfl) (unhide HLN) ?_ AllReadyH.nil)
        rintro _ Y36 ⟨rfl, h36⟩
        subst h36
        refine ⟨_, rfl, ⟨⟨_, hq32.ri⟩, hr32⟩, ?_⟩
        simp only [Act.put, List.setIfInBounds_toArray, List.set_cons_succ, List.set_cons_zero]
        refine gsem 37 (some 61) (.bool true) rfl (by kernel_rfl) (by kernel_rfl) (by kernel_rfl) (fun _ _ _ h => h) (by kernel_rfl) (by kernel_rfl) (fun _ _ => by kernel_rfl) ⟨⟨_, hq32.ri⟩, hr32⟩ ?_
        simp only [Act.put, List.setIfInBounds_toArray, List.set_cons_succ, List.set_cons_zero]
        refine gsem 38 (some 62) (.bool true) rfl (by kernel_rfl) (by kernel_rfl) (by kernel_rfl) (fun _ _ _ h => h) (by kernel_rfl) (by kernel_rfl) (fun _ _ => by kernel_rfl) ⟨⟨_, hq32.ri⟩, hr32⟩ ?_
        simp only [Act.put, List.setIfInBounds_toArray, List.set_cons_succ, List.set_cons_zero]
        refine gsem 39 (some 0) (.bool true) rfl (by kernel_rfl) (by kernel_rfl) (by kernel_rfl) (fun _ _ _ h => h) (by kernel_rfl) (by kernel_rfl) (fun _ _ => by kernel_rfl) ⟨⟨_, hq32.ri⟩, hr32⟩ ?_
        simp only [Act.put, List.setIfInBounds_toArray, List.set_cons_succ, List.set_cons_zero]
        refine wpAnyH_done (by kernel_rfl) ?_ _
        try simp only [Act.put, List.setIfInBounds_toArray, List.set_cons_succ, List.set_cons_zero]
        have hfin : Below w.heap.size w Y36 := ((Fr.of_below (unhide HB).2 []).trans hq32.fr (fun b hb => .inr ((unhide HB).1 b hb))).below
        have HFIN := hide hfin
        clear hfin
        go_wp2
        go_ret
        exact ⟨rfl, unhide HFIN⟩
end Go.Proofs.YtmemceindohklaaDoor

/-! Rl -/
namespace Go.Proofs.YtmemceindohklaaDoor
open Go Go.Proofs Go.Maps Go.RowKit
set_option linter.unusedSimpArgs false
set_option linter.unusedVariables false
set_option maxHeartbeats 1000000
theorem rangeAt_eq {w X : World} {b p : Nat} {cs : List Value} (h : w.rangeAt b p cs) (he : X.heap[b]? = w.heap[b]?) : X.rangeAt b p cs := fun j v hv => (World.cell?_of_block he).trans (h j v hv)
theorem ReadsAT.to {w X : World} {E : List Nat} {A : Option Addr} {l : List AT} (h : ReadsAT w [] A l) (hk : Fr w X []) (hE : ∀ b ∈ E, w.heap.size ≤ b) : ReadsAT X E A l := by
  intro j x hx
  obtain ⟨h1, b, off, IA, ic, h2, h3, h4, h5, h6⟩ := h j x hx
  refine ⟨h1, b, off, IA, ic, h2, Nat.lt_of_lt_of_le h3 hk.size, fun hm => by have := hE b hm; omega, rangeAt_eq h5 (hk.block b h3 (by simp)), ?_⟩
  intro j2 y hy
  obtain ⟨g1, b2, off2, g2, g3, g4, g5⟩ := h6 j2 y hy
  exact ⟨g1, b2, off2, g2, Nat.lt_of_lt_of_le g3 hk.size, fun hm => by have := hE b2 hm; omega, rangeAt_eq g5 (hk.block b2 g3 (by simp))⟩
/-- New, then run. -/
def MadePost (w : World) (l : List AT) (e : Ending) (w' : World) : Prop := ∃ (v u : Value) (prs : List (KK × DD)), e = .returned (.tuple #[v, u]) ∧ Fr w w' [] ∧ prs = (runA l ⟨[], 0⟩ []).1.l.map (fun e => (e.1, e.2.1)) ∧ prs.length ≤ 99000 ∧ w'.ownsRow w.heap.size 54 20 v prs.length (flatP prs) ∧ w'.ownsRow w.heap.size 3 1 u (runA l ⟨[], 0⟩ []).2.length ((runA l ⟨[], 0⟩ []).2.map (fun z => .int .i64 z))
theorem runs8 {w Y : World} {T : TT} {A : Option Addr} {cap : Nat} {l : List AT} (c : Bool) (hR : ReadsAT w [] A l) (hU : Lib.Utf8Tabs 4 5 w) (hl : l.length ≤ 400) (hT : T.Is Y) (hr : T.rows = []) (h0 : T.last = 0) (hb : ∀ b ∈ T.blocks, w.heap.size ≤ b) (hk : Below w.heap.size w Y) : Calls Tryd.prog 8 #[.pointer (some ⟨T.t, 0, none⟩), .slice A l.length cap, .bool c] Y (MadePost w l) := by
  have hf := Fr.of_below hk []
  have habs : abs T = ⟨[], 0⟩ := by unfold abs TT.live; rw [hr, h0]; rfl
  refine (run8 T A cap l c Y hT (hR.to hf hb) (tabs_below hU hk) (fun b hm => Nat.le_trans (tabs_size hU) (hb b hm)) hl (by omega)).mono ?_
  rintro e X ⟨T', pw, tv, rfl, hT', -, hfr, hnb, hab, hla, hpw, htv, -, -⟩
  rw [habs] at hab htv
  have hlen : (T'.live.map RR.pr).length = T'.live.length := by simp
  have hms : ∀ {e s n : Nat} {v : Value} {ys : List Value}, X.ownsRow Y.heap.size e s v n ys → X.ownsRow w.heap.size e s v n ys := fun h => own_mono h hk.size
  refine ⟨pw, tv, T'.live.map RR.pr, rfl, hf.trans hfr (fun b hm => .inr (hb b hm)), ?_, ?_, ?_, hms htv⟩
  · rw [← hab]
    simp only [abs, List.map_map]
    rfl
  · rw [hlen]
    have h1 := T'.live_le
    have h2 := hT'.len
    omega
  · rw [hlen]
    exact hms hpw
theorem runA_len : ∀ (l : List AT) (s : AS) (xs : List Int), (runA l s xs).2.length = xs.length + 2 * l.length
  | [], _, _ => rfl
  | x :: l, s, xs => by
    show (runA l _ _).2.length = _
    rw [runA_len l]
    simp
    omega
def ORow (X : World) (b : Nat) (xs : List Int) (A : Option Addr) (c : Nat) : Prop := X.ownsRow b 3 1 (.slice A xs.length c) xs.length (xs.map fun z => .int .i64 z)
theorem map_flat : ∀ xs : List Int, (xs.map fun z => Value.int .i64 z) = xs.flatMap (fun z => [Value.int .i64 z])
  | [] => rfl
  | a :: t => by
    rw [List.map_cons, List.flatMap_cons, map_flat t]
    rfl
theorem own_int {X : World} {b : Nat} {xs : List Int} {A : Option Addr} {c : Nat} (h : ORow X b xs A c) (j : Nat) (hj : j < xs.length) : ∃ g, A = some ⟨g, 0, none⟩ ∧ X.rangeAt g (j * 1) [.int .i64 xs[j]] := by
  have e := map_flat xs
  have hf : ∀ z : Int, ((fun z : Int => [Value.int .i64 z]) z).length = 1 := fun _ => rfl
  unfold ORow at h
  rcases h.2 with ⟨-, h0⟩ | ⟨g, cap, cur, h1, -, -, -⟩
  · omega
  · obtain ⟨rfl, -, -⟩ : A = some ⟨g, 0, none⟩ ∧ xs.length = xs.length ∧ c = cap := by simpa using h1
    rw [e] at h
    exact ⟨g, rfl, own_rows hf h j hj⟩
theorem und26 : Tryd.prog.underlying 26 = some (.slice (Tryd.prog.elem 26)) := by kernel_rfl
theorem idx26 : ∀ w, (sizeOf (Tryd.prog.elem 26)).run Tryd.prog w = .ok 1 w := fun w => by kernel_rfl
theorem ex_neqI {o : Oper} {a : Act} {w : World} {x y : Operand} {n : Int} (ho : o.op = .binOp .neq 3 x y 3) (hx : a.eval x = .int .i64 n) (hy : a.eval y = .int .i64 n) : (execOp a.eval o).run Tryd.prog w = .ok (.value (.bool false)) w := by
  unfold execOp
  simp only [ho, hx, hy]
  simp [go_sem, eqGuard]
inductive LI3 (w : World) (b2 : Nat) (xs : List Int) (A1 A2 : Option Addr) (c1 c2 gm : Nat) (X : World) : Act → Prop where
  | mk (i : Nat) (u0 u1 u2 u3 u5 u8 u9 u10 u11 u12 u13 u14 u15 u16 u17 u18 u19 u20 u21 u22 u23 u24 u25 u26 u27 u28 u29 u30 u31 u32 u33 u34 u35 u36 u37 u38 u39 u40 u41 u42 u43 u44 u45 u46 u47 u48 u49 u50 : Value) (hil : i ≤ xs.length) (hgm : xs.length - i ≤ gm) (HI : Hid (ORow X w.heap.size xs A1 c1 ∧ ORow X b2 xs A2 c2 ∧ Fr w X [])) : LI3 w b2 xs A1 A2 c1 c2 gm X { tmps := #[u0, u1, u2, u3, .slice A1 xs.length c1, u5, .slice A2 xs.length c2, .int .i64 (i : Nat), u8, u9, u10, u11, u12, u13, u14, u15, u16, u17, u18, u19, u20, u21, u22, u23, u24, u25, u26, u27, u28, u29, u30, u31, u32, u33, u34, u35, u36, u37, u38, u39, u40, u41, u42, u43, u44, u45, u46, u47, u48, u49, u50], defers := [] }
attribute [local go_sem] Oper.semAt_some
set_option maxHeartbeats 8000000 in
set_option maxRecDepth 100000 in
theorem law3 (A : Option Addr) (cap : Nat) (l : List AT) (w : World) (hR : ReadsAT w [] A l) (hU : Lib.Utf8Tabs 4 5 w) (hP : TabP w) : Calls Tryd.prog 3 #[.slice A l.length cap] w fun e w' => e = .returned (.bool true) ∧ Below w.heap.size w w' := by
  have HR := hide hR
  have HU := hide hU
  have HP := hide hP
  clear hR hU hP
  go_enter Tryd.func3, Tryd.ntmps3
  go_wp2_with fail
  refine (works6 w (unhide HU) (unhide HP)).mono ?_
  rintro _ W1 ⟨rfl, hb1⟩
  have HB1 := hide hb1
  clear hb1
  go_wp2_with fail
  refine (few7 A l.length cap W1).mono ?_
  rintro _ W2 ⟨rfl, h2⟩
  subst h2
  by_cases h400 : l.length ≤ 400
  · rw [decide_eq_true h400]
    have HL := hide h400
    clear h400
    go_wp2_with fail
    refine (new10 W2).mono ?_
    rintro _ Y1 ⟨Ta, rfl, hTa, hra, h0a, hba, hka⟩
    have HR1 := hide (runs8 (cap := cap) false (unhide HR) (unhide HU) (unhide HL) hTa hra h0a (fun b hb => Nat.le_trans (unhide HB1).size (hba b hb)) (((Fr.of_below (unhide HB1) []).trans (Fr.of_below hka []) (by simp)).below))
    clear hTa hra h0a hba hka
    go_wp2_with fail
    refine (unhide HR1).mono ?_
    rintro _ Z1 ⟨v1, u1, prs, rfl, hf1, hp1, hl1, ho1, hq1⟩
    have H1 := hide (And.intro hf1 (And.intro hp1 (And.intro hl1 (And.intro ho1 hq1))))
    clear hf1 hp1 hl1 ho1 hq1 HR1
    go_wp2_with fail
    refine (new10 Z1).mono ?_
    rintro _ Y2 ⟨Tb, rfl, hTb, hrb, h0b, hbb, hkb⟩
    have HR2 := hide (runs8 (cap := cap) true ((unhide HR).to (unhide H1).1 (by simp)) (tabs_below (unhide HU) (unhide H1).1.below) (unhide HL) hTb hrb h0b hbb hkb)
    clear hTb hrb h0b hbb hkb
    go_wp2_with fail
    refine (unhide HR2).mono ?_
    rintro _ Z2 ⟨v2, u2, prs2, rfl, hf2, hp2, -, ho2, hq2⟩
    obtain ⟨hf1, hp1, hl1, ho1, hq1⟩ := unhide H1
    obtain rfl : prs2 = prs := hp2.trans hp1.symm
    have ho3 := own_keep ho1 (fun g hg => hf2.block g (World.ownsRow.lt ho1 g hg).2 (by simp))
    have hq3 := own_keep hq1 (fun g hg => hf2.block g (World.ownsRow.lt hq1 g hg).2 (by simp))
    obtain ⟨A1, c1, rfl⟩ := own_form hq1
    obtain ⟨A2, c2, rfl⟩ := own_form hq2
    have HSP := hide (sameProps31 v1 v2 _ _ prs2 Z2 ho3 ho2 (by omega))
    have HF := hide (hf1.trans hf2 (by simp))
    have HQ := hide (And.intro hq3 hq2)
    clear hf1 hp1 hl1 ho1 hq1 hf2 hp2 ho2 hq2 ho3 hq3 H1 HR2
    obtain ⟨xs, hxs⟩ : ∃ xs, xs = (runA l ⟨[], 0⟩ []).2 := ⟨_, rfl⟩
    rw [← hxs] at HQ ⊢
    have HXL : Hid (xs.length ≤ 800) := hide (by have h9 := unhide HL; rw [hxs, runA_len]; simp only [List.length_nil]; omega)
    clear hxs
    go_wp2_with (first | go_skip | ((with_reducible show wpList _ _ _ _ _ _); first | ((refine vl (by rfl) (ex_lenG 26 3 Tryd.underlying26 rfl rfl) ?_); simp only [Act.put, List.setIfInBounds_toArray, List.set_cons_succ, List.set_cons_zero])))
    refine (unhide HSP).mono ?_
    rintro _ Z3 ⟨rfl, hb3⟩
    have HI0 : Hid (ORow Z3 w.heap.size xs A1 c1 ∧ ORow Z3 Z1.heap.size xs A2 c2 ∧ Fr w Z3 []) := hide ⟨own_keep (unhide HQ).1 (fun g hg => hb3.block g (World.ownsRow.lt (unhide HQ).1 g hg).2), own_keep (unhide HQ).2 (fun g hg => hb3.block g (World.ownsRow.lt (unhide HQ).2 g hg).2), (unhide HF).on hb3⟩
    clear hb3 HSP HQ HF
    go_wp2_with (first | go_skip | ((with_reducible show wpList _ _ _ _ _ _); first | ((refine vl (by rfl) (ex_lenG 26 3 Tryd.underlying26 rfl rfl) ?_); simp only [Act.put, List.setIfInBounds_toArray, List.set_cons_succ, List.set_cons_zero])))
    refine wp_loop_ghost_k (fun gm a X => LI3 w Z1.heap.size xs A1 A2 c1 c2 gm X a) xs.length ?start ?round
    case start => exact LI3.mk 0 _ _ _ _ _ _ _ _ _ _ _ _ _ _ _ _ _ _ _ _ _ _ _ _ _ _ _ _ _ _ _ _ _ _ _ _ _ _ _ _ _ _ _ _ _ _ _ _ (Nat.zero_le _) (Nat.le_refl _) HI0
    case round =>
      clear HI0
      intro gm a X hin J K hJ hK
      obtain ⟨i, u0, u1, u2, u3, u5, u8, u9, u10, u11, u12, u13, u14, u15, u16, u17, u18, u19, u20, u21, u22, u23, u24, u25, u26, u27, u28, u29, u30, u31, u32, u33, u34, u35, u36, u37, u38, u39, u40, u41, u42, u43, u44, u45, u46, u47, u48, u49, u50, hil, hgm, HI⟩ := hin
      by_cases hlt : i < xs.length
      · have dlt : decide ((i : Int) < (xs.length : Int)) = true := decide_eq_true (by omega)
        have hw1 : IntKind.i64.wrap ((i : Int) + 1) = (i : Int) + 1 := by have := unhide HXL; rw [IntKind.wrap_i64]; omega
        obtain ⟨g1, hA1, hr1⟩ := own_int (unhide HI).1 i hlt
        obtain ⟨g2, hA2, hr2⟩ := own_int (unhide HI).2.1 i hlt
        subst hA1 hA2
        have HRR := hide (And.intro hr1 hr2)
        clear hr1 hr2
        go_wp2_with (first | go_skip | ((with_reducible show wpList _ _ _ _ _ _); first | ((refine vl (by rfl) (ex_lenG 26 3 Tryd.underlying26 rfl rfl) ?_); simp only [Act.put, List.setIfInBounds_toArray, List.set_cons_succ, List.set_cons_zero])))
        refine wp_region_held_drew (P := Tryd.prog) (S := fun X => X.rangeAt g1 (i * 1) [.int .i64 xs[i]] ∧ X.rangeAt g2 (i * 1) [.int .i64 xs[i]]) (by kernel_rfl) (unhide HRR) (fun hS0 => ?_)
        refine gsem 0 (some 42) (.slice (some ⟨g1, 0, none⟩) xs.length c1) rfl (by kernel_rfl) (by kernel_rfl) (by kernel_rfl) (fun _ _ _ h => h) (by kernel_rfl) (by kernel_rfl) (fun _ _ => by kernel_rfl) (unhide HRR) ?_
        simp only [Act.put, List.setIfInBounds_toArray, List.set_cons_succ, List.set_cons_zero]
        refine gsem 1 (some 43) (.int .i64 (i : Nat)) rfl (by kernel_rfl) (by kernel_rfl) (by kernel_rfl) (fun _ _ _ h => h) (by kernel_rfl) (by kernel_rfl) (fun _ _ => by kernel_rfl) (unhide HRR) ?_
        simp only [Act.put, List.setIfInBounds_toArray, List.set_cons_succ, List.set_cons_zero]
        refine gsem 2 (some 44) (.pointer (some ⟨g1, 0 + i * 1, none⟩)) rfl (by kernel_rfl) (by kernel_rfl) (by kernel_rfl) (fun _ _ _ h => h) (by kernel_rfl) (by kernel_rfl) (fun X hX => ex_indexG 26 1 i und26 idx26 rfl rfl rfl hlt) (unhide HRR) ?_
        simp only [Act.put, List.setIfInBounds_toArray, List.set_cons_succ, List.set_cons_zero]
        refine gsem 3 (some 45) (.int .i64 xs[i]) rfl (by kernel_rfl) (by kernel_rfl) (by kernel_rfl) (fun _ _ _ h => h) (by kernel_rfl) (by kernel_rfl) (fun X hX => ex_loadC 3 Tryd.isAgg3 rfl rfl ((by rw [Nat.zero_add]; exact hX.1 0 _ rfl))) (unhide HRR) ?_
        simp only [Act.put, List.setIfInBounds_toArray, List.set_cons_succ, List.set_cons_zero]
        refine gsem 4 (some 46) (.slice (some ⟨g2, 0, none⟩) xs.length c2) rfl (by kernel_rfl) (by kernel_rfl) (by kernel_rfl) (fun _ _ _ h => h) (by kernel_rfl) (by kernel_rfl) (fun _ _ => by kernel_rfl) (unhide HRR) ?_
        simp only [Act.put, List.setIfInBounds_toArray, List.set_cons_succ, List.set_cons_zero]
        refine gsem 5 (some 47) (.int .i64 (i : Nat)) rfl (by kernel_rfl) (by kernel_rfl) (by kernel_rfl) (fun _ _ _ h => h) (by kernel_rfl) (by kernel_rfl) (fun _ _ => by kernel_rfl) (unhide HRR) ?_
        simp only [Act.put, List.setIfInBounds_toArray, List.set_cons_succ, List.set_cons_zero]
        refine gsem 6 (some 48) (.pointer (some ⟨g2, 0 + i * 1, none⟩)) rfl (by kernel_rfl) (by kernel_rfl) (by kernel_rfl) (fun _ _ _ h => h) (by kernel_rfl) (by kernel_rfl) (fun X hX => ex_indexG 26 1 i und26 idx26 rfl rfl rfl hlt) (unhide HRR) ?_
        simp only [Act.put, List.setIfInBounds_toArray, List.set_cons_succ, List.set_cons_zero]
        refine gsem 7 (some 49) (.int .i64 xs[i]) rfl (by kernel_rfl) (by kernel_rfl) (by kernel_rfl) (fun _ _ _ h => h) (by kernel_rfl) (by kernel_rfl) (fun X hX => ex_loadC 3 Tryd.isAgg3 rfl rfl ((by rw [Nat.zero_add]; exact hX.2 0 _ rfl))) (unhide HRR) ?_
        simp only [Act.put, List.setIfInBounds_toArray, List.set_cons_succ, List.set_cons_zero]
        refine gsem 8 (some 50) (.bool false) rfl (by kernel_rfl) (by kernel_rfl) (by kernel_rfl) (fun _ _ _ h => h) (by kernel_rfl) (by kernel_rfl) (fun X hX => ex_neqI rfl rfl rfl) (unhide HRR) ?_
        simp only [Act.put, List.setIfInBounds_toArray, List.set_cons_succ, List.set_cons_zero]
        refine wpAnyH_done (by kernel_rfl) ?_ _
        try simp only [Act.put, List.setIfInBounds_toArray, List.set_cons_succ, List.set_cons_zero]
        have HN : Hid (ORow X.drew w.heap.size xs _ c1 ∧ ORow X.drew Z1.heap.size xs _ c2 ∧ Fr w X.drew []) := hide ⟨own_keep (unhide HI).1 (fun _ _ => rfl), own_keep (unhide HI).2.1 (fun _ _ => rfl), (unhide HI).2.2.drew⟩
        have HLT := hide hlt
        go_wp2
        rw [show ((i : Int) + 1) = ((i + 1 : Nat) : Int) from rfl]
        exact (Handed.intro (xs.length - (i + 1)) (by have := unhide HLT; omega) (hJ _ _ _ (LI3.mk (i + 1) _ _ _ _ _ _ _ _ _ _ _ _ _ _ _ _ _ _ _ _ _ _ _ _ _ _ _ _ _ _ _ _ _ _ _ _ _ _ _ _ _ _ _ _ _ _ _ _ (by have := unhide HLT; omega) (Nat.le_refl _) HN)))
      · obtain rfl : i = xs.length := by omega
        clear hlt hil hgm
        go_wp2_with (first | go_skip | ((with_reducible show wpList _ _ _ _ _ _); first | ((refine vl (by rfl) (ex_lenG 26 3 Tryd.underlying26 rfl rfl) ?_); simp only [Act.put, List.setIfInBounds_toArray, List.set_cons_succ, List.set_cons_zero])))
        go_ret
        exact ⟨rfl, (unhide HI).2.2.below⟩
  · rw [decide_eq_false h400]
    go_wp2
    go_ret
    exact ⟨rfl, unhide HB1⟩
end Go.Proofs.YtmemceindohklaaDoor

/-! Nk -/
namespace Go.Proofs.YtmemceindohklaaDoor
open Go Go.Proofs Go.RowKit Go.WideShapes Go.ChangeShapes
set_option linter.unusedSimpArgs false
set_option linter.unusedVariables false
theorem cellsOf36 : Tryd.prog.cellsOf 37 = 5 := by kernel_rfl
theorem cellsOf3 : Tryd.prog.cellsOf 3 = 1 := by kernel_rfl
theorem cellsOf4 : Tryd.prog.cellsOf 4 = 1 := by kernel_rfl
theorem cellsOf34 : Tryd.prog.cellsOf 35 = 1 := by kernel_rfl
theorem cellsOf9 : Tryd.prog.cellsOf 9 = 1 := by kernel_rfl
section
variable {H : Type} {enc : TypeId × Value → H} {P : Program} {W : World} {base : Nat} {sp : Nat → Bool} {held : Bool} {m : Nat} {c : Value} {x : DataW H × List MemPlace} {t : TypeId}
theorem cell_bool (hu : P.underlying t = some .bool) (h : DataW.trod enc P W base sp held m t [c] = some x) : ∃ b, c = .bool b ∧ x = (.lit (.bool b), []) := by
  cases m with
  | zero => simp [DataW.trod] at h
  | succ m =>
    unfold DataW.trod at h
    rw [hu] at h
    split at h <;> simp_all
theorem wf64 {b : Nat} (h : (Lit.float .f64 b).wf = true) : b < 2 ^ 64 := by
  unfold Lit.wf at h
  exact of_decide_eq_true h
theorem cell_float (hu : P.underlying t = some (.float .f64)) (h : DataW.trod enc P W base sp held m t [c] = some x) : ∃ b, c = .float .f64 b ∧ b < 2 ^ 64 ∧ x = (.lit (.float .f64 b), []) := by
  cases m with
  | zero => simp [DataW.trod] at h
  | succ m =>
    unfold DataW.trod at h
    rw [hu] at h
    split at h <;> simp_all
    rename_i e
    subst e
    exact wf64 h.1.2
theorem cell_string (hu : P.underlying t = some .string) (h : DataW.trod enc P W base sp held m t [c] = some x) : ∃ s, c = .string s ∧ s.size ≤ maxLen ∧ x = (.lit (.string s.data.toList), []) := by
  cases m with
  | zero => simp [DataW.trod] at h
  | succ m =>
    unfold DataW.trod at h
    rw [hu] at h
    split at h <;> simp_all
theorem cell_int (hu : P.underlying t = some (.int .i64)) (h : DataW.trod enc P W base sp held m t [c] = some x) : ∃ n, c = .int .i64 n ∧ (Lit.int .i64 n).wf = true ∧ x = (.lit (.int .i64 n), []) := by
  cases m with
  | zero => simp [DataW.trod] at h
  | succ m =>
    unfold DataW.trod at h
    rw [hu] at h
    split at h <;> simp_all
/-- Five cells that read as a value. -/
theorem cells_value' {f0 f1 f2 f3 f4 : Field} {cs : List Value} (hs : P.underlying t = some (.struct #[f0, f1, f2, f3, f4])) (hC : P.cellsOf t = 5)
    (o0 : f0.offset = 0) (o1 : f1.offset = 1) (o2 : f2.offset = 2) (o3 : f3.offset = 3) (o4 : f4.offset = 4)
    (u0 : P.underlying f0.type = some (.int .i64)) (u1 : P.underlying f1.type = some .bool) (u2 : P.underlying f2.type = some (.float .f64)) (u3 : P.underlying f3.type = some .string) (u4 : P.underlying f4.type = some (.int .i64))
    (s0 : P.cellsOf f0.type = 1) (s1 : P.cellsOf f1.type = 1) (s2 : P.cellsOf f2.type = 1) (s3 : P.cellsOf f3.type = 1) (s4 : P.cellsOf f4.type = 1)
    (h : DataW.trod enc P W base sp held m t cs = some x) :
    ∃ u : VV, cs = [.int .i64 u.k, .bool u.b, .float .f64 u.x, .string u.s, .int .i64 u.i] ∧ u.x < 2 ^ 64 ∧ u.s.size ≤ maxLen ∧ (Lit.int .i64 u.k).wf = true ∧ (Lit.int .i64 u.i).wf = true := by
  obtain ⟨xs, n, _, rfl, hl, hlen, hf⟩ := DataW.trod_struct hs h
  rw [hC] at hl
  match cs, hl with
  | [c0, c1, c2, c3, c4], _ =>
    have h0 := hf 0 _ rfl
    have h1 := hf 1 _ rfl
    have h2 := hf 2 _ rfl
    have h3 := hf 3 _ rfl
    have h4 := hf 4 _ rfl
    simp [s0, s1, s2, s3, s4, o0, o1, o2, o3, o4] at h0 h1 h2 h3 h4 hlen
    have g : ∀ j, j < 5 → ∃ y, xs[j]? = some y := fun j hj => ⟨_, List.getElem?_eq_getElem (by omega)⟩
    obtain ⟨y0, e0⟩ := g 0 (by omega)
    obtain ⟨y1, e1⟩ := g 1 (by omega)
    obtain ⟨y2, e2⟩ := g 2 (by omega)
    obtain ⟨y3, e3⟩ := g 3 (by omega)
    obtain ⟨y4, e4⟩ := g 4 (by omega)
    rw [e0] at h0
    rw [e1] at h1
    rw [e2] at h2
    rw [e3] at h3
    rw [e4] at h4
    obtain ⟨k, rfl, wk, -⟩ := cell_int u0 h0
    obtain ⟨b, rfl, -⟩ := cell_bool u1 h1
    obtain ⟨f, rfl, wf, -⟩ := cell_float u2 h2
    obtain ⟨s, rfl, ws, -⟩ := cell_string u3 h3
    obtain ⟨i, rfl, wi, -⟩ := cell_int u4 h4
    exact ⟨⟨k, b, f, s, i⟩, rfl, wf, ws, wk, wi⟩
end
set_option maxRecDepth 100000 in
theorem cells_value {H : Type} {enc : TypeId × Value → H} {W : World} {base : Nat} {sp : Nat → Bool} {held : Bool} {m : Nat} {x : DataW H × List MemPlace} {cs : List Value} (h : DataW.trod enc Tryd.prog W base sp held m 37 cs = some x) :
    ∃ u : VV, cs = [.int .i64 u.k, .bool u.b, .float .f64 u.x, .string u.s, .int .i64 u.i] ∧ u.x < 2 ^ 64 ∧ u.s.size ≤ maxLen ∧ (Lit.int .i64 u.k).wf = true ∧ (Lit.int .i64 u.i).wf = true :=
  cells_value' Tryd.underlying37 cellsOf36 rfl rfl rfl rfl rfl Tryd.underlying3 Tryd.underlying4 Tryd.underlying35 Tryd.underlying9 Tryd.underlying3 cellsOf3 cellsOf4 cellsOf34 cellsOf9 cellsOf3 h
set_option maxRecDepth 100000 in
theorem open_value {H : Type} {enc : TypeId × Value → H} {W : World} {base : Nat} {sp : Nat → Bool} {held : Bool} {r : Reach} {b0 : Nat} {v : Value} {d : DataW H} {p : List MemPlace} (hv : Value.okWide Tryd.prog W r b0 37 v) (h : DataW.Trod enc Tryd.prog W base sp held 37 v d p) :
    ∃ u : VV, v = u.agg ∧ u.x < 2 ^ 64 ∧ u.s.size ≤ maxLen ∧ (Lit.int .i64 u.k).wf = true ∧ (Lit.int .i64 u.i).wf = true := by
  obtain ⟨cs, rfl, hsz⟩ := okWide_struct Tryd.underlying37 hv
  obtain ⟨fuel, hf⟩ := h
  obtain ⟨u, hc, h1, h2, h3, h4⟩ := cells_value hf
  refine ⟨u, ?_, h1, h2, h3, h4⟩
  have hc' : cs.toList = [.int .i64 u.k, .bool u.b, .float .f64 u.x, .string u.s, .int .i64 u.i] := hc
  have : cs = #[.int .i64 u.k, .bool u.b, .float .f64 u.x, .string u.s, .int .i64 u.i] := Array.toList_inj.1 hc'
  rw [this]
  rfl
theorem cellsOf39 : Tryd.prog.cellsOf 40 = 18 := by kernel_rfl
theorem cellsOf37 : Tryd.prog.cellsOf 38 = 1 := by kernel_rfl
section
variable {H : Type} {enc : TypeId × Value → H} {P : Program} {W : World} {base : Nat} {sp : Nat → Bool} {held : Bool} {m : Nat} {t : TypeId} {x : DataW H × List MemPlace}
set_option maxRecDepth 100000 in
theorem cells_desc' {f0 f1 f2 f3 f4 f5 : Field} {cs : List Value} (hs : Tryd.prog.underlying t = some (.struct #[f0, f1, f2, f3, f4, f5])) (hC : Tryd.prog.cellsOf t = 18)
    (o0 : f0.offset = 0) (o1 : f1.offset = 5) (o2 : f2.offset = 10) (o3 : f3.offset = 15) (o4 : f4.offset = 16) (o5 : f5.offset = 17)
    (t0 : f0.type = 37) (t1 : f1.type = 37) (t2 : f2.type = 37) (t3 : f3.type = 38) (t4 : f4.type = 38) (t5 : f5.type = 38)
    (h : DataW.trod enc Tryd.prog W base sp held m t cs = some x) : ∃ d : DD, cs = d.cs := by
  obtain ⟨xs, n, _, rfl, hl, hlen, hf⟩ := DataW.trod_struct hs h
  rw [hC] at hl
  match cs, hl with
  | [c0, c1, c2, c3, c4, c5, c6, c7, c8, c9, c10, c11, c12, c13, c14, c15, c16, c17], _ =>
    have h0 := hf 0 _ rfl
    have h1 := hf 1 _ rfl
    have h2 := hf 2 _ rfl
    have h3 := hf 3 _ rfl
    have h4 := hf 4 _ rfl
    have h5 := hf 5 _ rfl
    simp [t0, t1, t2, t3, t4, t5, o0, o1, o2, o3, o4, o5, cellsOf36, cellsOf37] at h0 h1 h2 h3 h4 h5 hlen
    have g : ∀ j, j < 6 → ∃ y, xs[j]? = some y := fun j hj => ⟨_, List.getElem?_eq_getElem (by omega)⟩
    obtain ⟨y0, e0⟩ := g 0 (by omega)
    obtain ⟨y1, e1⟩ := g 1 (by omega)
    obtain ⟨y2, e2⟩ := g 2 (by omega)
    obtain ⟨y3, e3⟩ := g 3 (by omega)
    obtain ⟨y4, e4⟩ := g 4 (by omega)
    obtain ⟨y5, e5⟩ := g 5 (by omega)
    rw [e0] at h0
    rw [e1] at h1
    rw [e2] at h2
    rw [e3] at h3
    rw [e4] at h4
    rw [e5] at h5
    obtain ⟨v, q0, x0, z0, -⟩ := cells_value h0
    obtain ⟨g, q1, x1, -⟩ := cells_value h1
    obtain ⟨s, q2, x2, -⟩ := cells_value h2
    obtain ⟨a, q3, -⟩ := cell_int Tryd.underlying38 h3
    obtain ⟨e, q4, -⟩ := cell_int Tryd.underlying38 h4
    obtain ⟨c, q5, -⟩ := cell_int Tryd.underlying38 h5
    simp only [List.cons.injEq] at q0 q1 q2
    obtain ⟨rfl, rfl, rfl, rfl, rfl, -⟩ := q0
    obtain ⟨rfl, rfl, rfl, rfl, rfl, -⟩ := q1
    obtain ⟨rfl, rfl, rfl, rfl, rfl, -⟩ := q2
    subst q3 q4 q5
    exact ⟨⟨v, g, s, a, e, c⟩, rfl⟩
end
set_option maxRecDepth 100000 in
theorem cells_desc {H : Type} {enc : TypeId × Value → H} {W : World} {base : Nat} {sp : Nat → Bool} {held : Bool} {m : Nat} {x : DataW H × List MemPlace} {cs : List Value} (h : DataW.trod enc Tryd.prog W base sp held m 40 cs = some x) : ∃ d : DD, cs = d.cs :=
  cells_desc' Tryd.underlying40 cellsOf39 rfl rfl rfl rfl rfl rfl rfl rfl rfl rfl rfl rfl h
set_option maxRecDepth 100000 in
theorem open_desc {H : Type} {enc : TypeId × Value → H} {W : World} {base : Nat} {sp : Nat → Bool} {held : Bool} {r : Reach} {b0 : Nat} {v : Value} {d : DataW H} {p : List MemPlace} (hv : Value.okWide Tryd.prog W r b0 40 v) (h : DataW.Trod enc Tryd.prog W base sp held 40 v d p) :
    ∃ u : DD, v = u.agg := by
  obtain ⟨cs, rfl, hsz⟩ := okWide_struct Tryd.underlying40 hv
  obtain ⟨fuel, hf⟩ := h
  obtain ⟨u, hc⟩ := cells_desc hf
  refine ⟨u, ?_⟩
  have hc' : cs.toList = u.cs := hc
  have : cs = u.cs.toArray := Array.toList_inj.1 (by simpa using hc')
  rw [this]
  rfl
theorem cellsOf33 : Tryd.prog.cellsOf 34 = 2 := by kernel_rfl
section
variable {H : Type} {enc : TypeId × Value → H} {P : Program} {W : World} {base : Nat} {sp : Nat → Bool} {held : Bool} {m : Nat} {c : Value} {x : DataW H × List MemPlace} {t : TypeId}
set_option maxRecDepth 100000 in
theorem cells_key' {f0 f1 : Field} {cs : List Value} (hs : Tryd.prog.underlying t = some (.struct #[f0, f1])) (hC : Tryd.prog.cellsOf t = 2) (o0 : f0.offset = 0) (o1 : f1.offset = 1) (t0 : f0.type = 9) (t1 : f1.type = 3)
    (h : DataW.trod enc Tryd.prog W base sp held m t cs = some x) : ∃ k : KK, cs = k.cs ∧ OkK k := by
  obtain ⟨xs, n, _, rfl, hl, hlen, hf⟩ := DataW.trod_struct hs h
  rw [hC] at hl
  match cs, hl with
  | [c0, c1], _ =>
    have h0 := hf 0 _ rfl
    have h1 := hf 1 _ rfl
    simp [t0, t1, o0, o1, cellsOf9, cellsOf3] at h0 h1 hlen
    have g : ∀ j, j < 2 → ∃ y, xs[j]? = some y := fun j hj => ⟨_, List.getElem?_eq_getElem (by omega)⟩
    obtain ⟨y0, e0⟩ := g 0 (by omega)
    obtain ⟨y1, e1⟩ := g 1 (by omega)
    rw [e0] at h0
    rw [e1] at h1
    obtain ⟨s, rfl, hs1, -⟩ := cell_string Tryd.underlying9 h0
    obtain ⟨n, rfl, hn1, -⟩ := cell_int Tryd.underlying3 h1
    exact ⟨⟨s, n⟩, rfl, hs1, hn1⟩
end
set_option maxRecDepth 100000 in
theorem cells_key {H : Type} {enc : TypeId × Value → H} {W : World} {base : Nat} {sp : Nat → Bool} {held : Bool} {m : Nat} {x : DataW H × List MemPlace} {cs : List Value} (h : DataW.trod enc Tryd.prog W base sp held m 34 cs = some x) : ∃ k : KK, cs = k.cs ∧ OkK k :=
  cells_key' Tryd.underlying34 cellsOf33 rfl rfl rfl rfl h
set_option maxRecDepth 100000 in
theorem open_key {H : Type} {enc : TypeId × Value → H} {W : World} {base : Nat} {sp : Nat → Bool} {held : Bool} {r : Reach} {b0 : Nat} {v : Value} {d : DataW H} {p : List MemPlace} (hv : Value.okWide Tryd.prog W r b0 34 v) (h : DataW.Trod enc Tryd.prog W base sp held 34 v d p) :
    ∃ u : KK, v = u.agg ∧ OkK u := by
  obtain ⟨cs, rfl, hsz⟩ := okWide_struct Tryd.underlying34 hv
  obtain ⟨fuel, hf⟩ := h
  obtain ⟨u, hc, hok⟩ := cells_key hf
  refine ⟨u, ?_, hok⟩
  have hc' : cs.toList = u.cs := hc
  have : cs = u.cs.toArray := Array.toList_inj.1 (by simpa using hc')
  rw [this]
  rfl
end Go.Proofs.YtmemceindohklaaDoor

/-! Rm -/
namespace Go.Proofs.YtmemceindohklaaDoor
open Go Go.Proofs Go.RowKit Go.WideShapes Go.ChangeShapes
set_option linter.unusedSimpArgs false
set_option linter.unusedVariables false
set_option maxHeartbeats 1000000
theorem cellsOf41 : Tryd.prog.cellsOf 42 = 23 := by kernel_rfl
theorem cellsOf22 : Tryd.prog.cellsOf 22 = 1 := by kernel_rfl
theorem add_plain (b o i : Nat) : (Addr.add ⟨b, o, none⟩ i) = ⟨b, o + i, none⟩ := by
  unfold Addr.add
  by_cases h : i = 0
  · subst h; simp
  · simp [h]
theorem cell_spot' {w : World} {b o : Nat} {sp : Option Nat} {v : Value} (h : w.cell? ⟨b, o, sp⟩ = some v) : sp = none ∧ b < w.heap.size := by
  constructor
  · cases sp with
    | none => rfl
    | some s =>
      simp only [World.cell?] at h
      split at h <;> simp at h
  · rcases Nat.lt_or_ge b w.heap.size with h' | h'
    · exact h'
    · simp [World.cell?, Array.getElem?_eq_none h'] at h
/-- Rows of equal length, opened one by one. -/
theorem rows_of {α : Type} {f : α → List Value} {k : Nat} (hk : ∀ a, (f a).length = k) (h0 : 0 < k) {Pr : α → Prop} {W : World} {a : Addr} {n : Nat} (each : ∀ i, i < n → ∃ u : α, Pr u ∧ W.cells? 0 (a.add (i * k)) k = some (f u)) :
    ∃ l : List α, l.length = n ∧ ∀ (j : Nat) (u : α), l[j]? = some u → Pr u ∧ ∃ b off, a = ⟨b, off, none⟩ ∧ b < W.heap.size ∧ W.rangeAt b (off + j * k) (f u) := by
  have mk : ∀ q, q ≤ n → ∃ l : List α, l.length = q ∧ ∀ (i : Nat) (u : α), l[i]? = some u → Pr u ∧ W.cells? 0 (a.add (i * k)) k = some (f u) := by
    intro q
    induction q with
    | zero => exact fun _ => ⟨[], rfl, fun i u hu => by simp at hu⟩
    | succ q ih =>
      intro hq
      obtain ⟨l, hl, hl2⟩ := ih (by omega)
      obtain ⟨u, hu2⟩ := each q (by omega)
      refine ⟨l ++ [u], by simp [hl], fun i u' hu' => ?_⟩
      rcases Nat.lt_or_ge i l.length with h1 | h1
      · rw [List.getElem?_append_left h1] at hu'
        exact hl2 i u' hu'
      · rw [List.getElem?_append_right h1] at hu'
        have h3 := (List.getElem?_eq_some_iff.1 hu').1
        have h4 : i = q := by simp at h3; omega
        subst h4
        rw [hl, Nat.sub_self] at hu'
        obtain rfl : u = u' := by simpa using hu'
        exact hu2
  obtain ⟨l, hll, hlc⟩ := mk n (Nat.le_refl _)
  refine ⟨l, hll, fun j u hu => ⟨(hlc j u hu).1, ?_⟩⟩
  have h1 := (World.cells?_some (hlc j u hu).2).2.2
  obtain ⟨b, off, sp⟩ := a
  have hl0 : 0 < l.length := Nat.lt_of_le_of_lt (Nat.zero_le _) (List.getElem?_eq_some_iff.1 hu).1
  have h00 := (World.cells?_some (hlc 0 l[0] (List.getElem?_eq_getElem hl0)).2).2.2 0 h0
  have e0 : (Addr.add (Addr.add ⟨b, off, sp⟩ (0 * k)) 0) = ⟨b, off, sp⟩ := by simp [Addr.add]
  have hlen : 0 < (f l[0]).length := by rw [hk]; exact h0
  rw [e0, List.getElem?_eq_getElem hlen] at h00
  obtain ⟨rfl, hb⟩ := cell_spot' h00
  refine ⟨b, off, rfl, hb, fun t v hv => ?_⟩
  have ht : t < k := by
    have := (List.getElem?_eq_some_iff.1 hv).1
    rwa [hk] at this
  have h2 := h1 t ht
  rw [add_plain, add_plain] at h2
  rw [h2]
  exact hv
theorem ac_length (x : AC) : x.cs.length = 23 := rfl
section
variable {H : Type} {enc : TypeId × Value → H} {W : World} {base : Nat} {sp : Nat → Bool} {held : Bool} {m : Nat} {x : DataW H × List MemPlace}
set_option maxRecDepth 100000 in
/-- The cells of an act; the last one is a row of acts. -/
theorem cells_ac {cs : List Value} (h : DataW.trod enc Tryd.prog W base sp held m 42 cs = some x) : ∃ (a : AC) (m' : Nat) (y : DataW H × List MemPlace), cs = a.cs ∧ OkK a.k ∧ DataW.trod enc Tryd.prog W base sp held m' 22 [a.inner] = some y := by
  obtain ⟨xs, n, _, rfl, hl, hlen, hf⟩ := DataW.trod_struct Tryd.underlying42 h
  rw [cellsOf41] at hl
  match cs, hl with
  | [c0, c1, c2, c3, c4, c5, c6, c7, c8, c9, c10, c11, c12, c13, c14, c15, c16, c17, c18, c19, c20, c21, c22], _ =>
    have h0 := hf 0 _ rfl
    have h1 := hf 1 _ rfl
    have h2 := hf 2 _ rfl
    have h3 := hf 3 _ rfl
    have h4 := hf 4 _ rfl
    simp [cellsOf3, cellsOf33, cellsOf39, cellsOf22] at h0 h1 h2 h3 h4 hlen
    have g : ∀ j, j < 5 → ∃ y, xs[j]? = some y := fun j hj => ⟨_, List.getElem?_eq_getElem (by omega)⟩
    obtain ⟨y0, e0⟩ := g 0 (by omega)
    obtain ⟨y1, e1⟩ := g 1 (by omega)
    obtain ⟨y2, e2⟩ := g 2 (by omega)
    obtain ⟨y3, e3⟩ := g 3 (by omega)
    obtain ⟨y4, e4⟩ := g 4 (by omega)
    rw [e0] at h0
    rw [e1] at h1
    rw [e2] at h2
    rw [e3] at h3
    rw [e4] at h4
    obtain ⟨kd, rfl, -, -⟩ := cell_int Tryd.underlying3 h0
    obtain ⟨k, hk, hok⟩ := cells_key h1
    obtain ⟨d, hd⟩ := cells_desc h2
    obtain ⟨z, rfl, -, -⟩ := cell_int Tryd.underlying3 h3
    refine ⟨⟨kd, k, d, z, c22⟩, _, y4, ?_, hok, h4⟩
    show _ = actCs kd k d z c22
    unfold actCs
    rw [← hk, ← hd]
    rfl
/-- A row of acts, opened one level deep. -/
theorem open_ac {c : Value} (h : DataW.trod enc Tryd.prog W 0 (fun _ => true) true m 22 [c] = some x) : ∃ (A : Option Addr) (cap : Nat) (l : List AC), c = .slice A l.length cap ∧ ReadsAC W [] A l := by
  rcases Go.Deep.open_slice Tryd.underlying22 h with ⟨hcs, hx⟩ | ⟨a, len, cap, mm, k, D, Pl, hcs, _, hl, hm, hme, hx, hel⟩
  · refine ⟨none, 0, [], by simpa using hcs, fun j u hu => by simp at hu⟩
  · have hme' : len ≤ mm := by
      simp at hme
      omega
    have each : ∀ i, i < len → ∃ u : AC, OkK u.k ∧ W.cells? 0 (a.add (i * 23)) 23 = some u.cs := by
      intro i hi
      obtain ⟨cs', h1, h2⟩ := hel i (by omega)
      obtain ⟨u, _, _, rfl, hu, -⟩ := cells_ac h2
      rw [cellsOf41] at h1
      exact ⟨u, hu, h1⟩
    obtain ⟨l, hll, hlr⟩ := rows_of ac_length (by omega) each
    refine ⟨some a, cap, l, by rw [hll]; simpa using hcs, fun j p hp => ?_⟩
    obtain ⟨h1, b, off, rfl, h3, h4⟩ := hlr j p hp
    exact ⟨h1, b, off, rfl, h3, by simp, h4⟩
structure CT where
  x : AT
  A : Option Addr
  cap : Nat
def CT.cs (e : CT) : List Value := actCs e.x.kd e.x.k e.x.d e.x.n (.slice e.A e.x.il.length e.cap)
theorem ct_length (e : CT) : e.cs.length = 23 := rfl
/-- A list of acts, opened. -/
theorem open_at {v : Value} {d : DataW H} {p : List MemPlace} {A : Option Addr} {n cap : Nat} (hv : v = .slice A n cap) (h : DataW.Trod enc Tryd.prog W 0 (fun _ => true) true 22 v d p) : ∃ l : List AT, n = l.length ∧ ReadsAT W [] A l := by
  subst hv
  obtain ⟨fuel, hf⟩ := h
  rcases Go.Deep.open_slice Tryd.underlying22 hf with ⟨hcs, hx⟩ | ⟨a, len, cap', mm, k, D, Pl, hcs, _, hl, hm, hme, hx, hel⟩
  · simp [Value.cells] at hcs
    obtain ⟨rfl, rfl, rfl⟩ := hcs
    exact ⟨[], rfl, fun j u hu => by simp at hu⟩
  · simp [Value.cells] at hcs
    obtain ⟨rfl, rfl, rfl⟩ := hcs
    have hme' : n ≤ mm := by
      simp at hme
      omega
    have each : ∀ i, i < n → ∃ u : CT, (OkK u.x.k ∧ ReadsAC W [] u.A u.x.il) ∧ W.cells? 0 (a.add (i * 23)) 23 = some u.cs := by
      intro i hi
      obtain ⟨cs', h1, h2⟩ := hel i (by omega)
      obtain ⟨u, _, _, rfl, hu, h4⟩ := cells_ac h2
      obtain ⟨IA, ic, il, h5, h6⟩ := open_ac h4
      rw [cellsOf41] at h1
      refine ⟨⟨⟨u.kd, u.k, u.d, u.n, il⟩, IA, ic⟩, ⟨hu, h6⟩, ?_⟩
      rw [h1]
      show some (actCs u.kd u.k u.d u.n u.inner) = some (actCs u.kd u.k u.d u.n (.slice IA il.length ic))
      rw [h5]
    obtain ⟨l, hll, hlr⟩ := rows_of ct_length (by omega) each
    refine ⟨l.map CT.x, by simp [hll], fun j s hs => ?_⟩
    rw [List.getElem?_map] at hs
    obtain ⟨e, he, rfl⟩ := Option.map_eq_some_iff.1 hs
    obtain ⟨⟨h1, h2⟩, b, off, rfl, h6, h7⟩ := hlr j e he
    exact ⟨h1, b, off, e.A, e.cap, rfl, h6, by simp, h7, h2⟩
end
end Go.Proofs.YtmemceindohklaaDoor
