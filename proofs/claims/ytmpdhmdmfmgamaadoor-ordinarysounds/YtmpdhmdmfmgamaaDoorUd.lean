import Derived.Test.YtmpdhmdmfmgamaaDoorUc

/-! Oo -/
namespace Go.Proofs.YtmpdhmdmfmgamaaDoor
open Go Go.Proofs Go.Maps Go.RowKit FM
set_option linter.unusedSimpArgs false
set_option linter.unusedVariables false
set_option maxHeartbeats 1000000
theorem made_zero (n : Nat) : madeCells #[Value.int .i64 0] n = (mc (List.replicate n 0)).toArray := by
  apply Array.toList_inj.1
  unfold madeCells mc
  apply List.ext_getElem
  · simp
  · intro i h1 h2
    simp
    rw [Nat.mod_one]
    rfl
theorem inf3 : (Tryd.prog.info? 3).map (fun i => (i.zero, i.size, i.bytes)) = some (some (.int .i64 0), 1, 8) := by kernel_rfl
theorem mkF {ops : Array Oper} {rest : List Oper} {Q : Exit → Act → World → Prop} {w w0 : World} {a : Act} {o : Oper} {x y : Operand} {E : List Nat} {L : List (Nat × List Value)} (n : Nat) (hw : Region.wanted o (yielded ops a.tmps) = true) (ho : o.op = .makeSlice 32 x y) (hx : a.eval x = .int .i64 (n : Nat)) (hy : a.eval y = .int .i64 (n : Nat)) (hn : n ≤ 65536) (hL : Hq w0 w E L)
    (h : ∀ X B, B = w.heap.size → Hq w0 X E L → Holds X B (mc (List.replicate n 0)) → Below w.heap.size w X → B < X.heap.size → wpList Tryd.prog ops Q rest (a.put o.dst (.slice (some ⟨B, 0, none⟩) n n)) X) : wpList Tryd.prog ops Q (o :: rest) a w := by
  refine BigFrame.wpList_want hw fun K hK => ?_
  obtain ⟨i0, hi, hz0, hz1, hz2⟩ := info_parts inf3
  have hr := run_make (P := Tryd.prog) w 32 3 i0 _ Tryd.underlying32 hi hz0 .i64 .i64 n n (by omega) (Int.le_refl _) (by rw [hz2]; omega) (by omega)
  simp only [Int.toNat_natCast, hz1, Nat.mul_one] at hr
  have bl : Below w.heap.size w (w.alloc (.cells (madeCells (Value.cells (.int .i64 0)) n) 3)) := (Below.refl _ _).alloc (Nat.le_refl _) _
  have hP := hK _ _ (h _ _ rfl (hL.on bl) (by
    have e : madeCells (Value.cells (.int .i64 0)) n = (mc (List.replicate n 0)).toArray := made_zero n
    rw [e]
    exact Holds.new w _ 3) bl (by simp))
  unfold Oper.wp execOp
  simp only [ho, hx, hy]
  simp [hr]
  exact hP
theorem ex_build34 {o : Oper} {a : Act} {w : World} {x y : Operand} {A B : Option Addr} {n c m d : Nat} (ho : o.op = .build 34 #[(0, x), (1, y)]) (hx : a.eval x = .slice A n c) (hy : a.eval y = .slice B m d) : (execOp a.eval o).run Tryd.prog w = .ok (.value (.agg #[.slice A n c, .slice B m d])) w := by
  have e : (Instr.build 34 #[(0, .slice A n c), (1, .slice B m d)]).run Tryd.prog w = .ok (.agg #[.slice A n c, .slice B m d]) w := by kernel_rfl
  unfold execOp
  simp only [ho]
  simp [hx, hy, e]
def NPost (w : World) (A : Option Addr) (n cap : Nat) (e : Ending) (w' : World) : Prop := ∃ g : Nat, e = .returned (.agg #[.slice A n cap, .slice (some ⟨g, 0, none⟩) n n]) ∧ w.heap.size ≤ g ∧ Below w.heap.size w w' ∧ Holds w' g (mc (List.replicate n 0))
theorem Holds.far {X Y : World} {b g : Nat} {cs : List Value} (h : Holds X b cs) (hb : b < X.heap.size) (hf : Fr X Y [g]) (hn : b ≠ g) : Holds Y b cs := h.block (hf.block b hb (by simpa using hn))
set_option maxRecDepth 100000 in
theorem newMoment7 (A : Option Addr) (n cap : Nat) (w : World) (hn : n ≤ 65536) : Calls Tryd.prog 7 #[.slice A n cap] w (NPost w A n cap) := by
  have LL := hide (Hq.nil w [])
  have HN := hide hn
  clear hn
  go_enter Tryd.func7, Tryd.ntmps7
  go_wp2_with (first | go_skip | ((with_reducible show wpList _ _ _ _ _ _); first | ((refine alG 34 ([.slice none 0 0, .slice none 0 0]) (by rfl) rfl (fun w => by kernel_rfl) (Nat.succ_pos _) (unhide LL) ?_); intro X1 B1 hE1 L1 hb1; have hB1 := hide (Nat.le_trans (unhide LL).fr.size (Nat.le_of_eq hE1.symm)); replace LL := hide L1; clear L1 hb1 hE1; simp only [Act.put, List.setIfInBounds_toArray, List.set_cons_succ, List.set_cons_zero]) | ((refine rd (by rfl) (ex_lenG 22 28 Tryd.underlying22 rfl rfl) ?_); simp only [Act.put, List.setIfInBounds_toArray, List.set_cons_succ, List.set_cons_zero]) | ((refine mkF n (by rfl) rfl rfl rfl (unhide HN) (unhide LL) ?_); intro X2 B2 hE2 L2 hh2 hb2 hs2; have HH : Hid (Holds X2 B2 (mc (List.replicate n 0)) ∧ B2 < X2.heap.size ∧ B2 ≠ B1 ∧ w.heap.size ≤ B2) := hide ⟨hh2, hs2, Ne.symm (Nat.ne_of_lt (Nat.lt_of_lt_of_le ((unhide LL).lt _ (List.mem_singleton.2 rfl)) (Nat.le_of_eq hE2.symm))), Nat.le_trans (unhide LL).fr.size (Nat.le_of_eq hE2.symm)⟩; replace LL := hide L2; clear L2 hh2 hb2 hE2 hs2; simp only [Act.put, List.setIfInBounds_toArray, List.set_cons_succ, List.set_cons_zero]) | ((refine rd (by rfl) (ex_build34 rfl rfl rfl) ?_); simp only [Act.put, List.setIfInBounds_toArray, List.set_cons_succ, List.set_cons_zero]) | ((refine st (vs := [.slice A n cap, .slice (some ⟨B2, 0, none⟩) n n]) 0 34 (by rfl) rfl rfl rfl rfl (by simp [Value.oneCell']) siz34 (unhide LL) rfl (by simp) (Or.inr (unhide hB1)) ?_); intro X4 L4 hf4 hs4; replace HH : Hid (Holds X4 B2 (mc (List.replicate n 0)) ∧ w.heap.size ≤ B2) := hide ⟨(unhide HH).1.far (unhide HH).2.1 hf4 (unhide HH).2.2.1, (unhide HH).2.2.2⟩; replace LL := hide L4; clear L4 hf4 hs4; simp only [Act.put, List.setIfInBounds_toArray, List.set_cons_succ, List.set_cons_zero])))
  exact ret_c row34 siz34 rfl rfl rfl ((unhide LL).get 0 rfl) rfl ⟨B2, rfl, (unhide HH).2, (unhide LL).fr.below, (unhide HH).1⟩
end Go.Proofs.YtmpdhmdmfmgamaaDoor

/-! Op -/
namespace Go.Proofs.YtmpdhmdmfmgamaaDoor
open Go Go.Proofs Go.Maps Go.RowKit FM
set_option linter.unusedSimpArgs false
set_option linter.unusedVariables false
set_option maxHeartbeats 1000000
theorem Hq.change {w X Y : World} {E : List Nat} {g : Nat} {cs cs' : List Value} {L : List (Nat × List Value)} (h : Hq w X E ((g, cs) :: L)) (hf : Fr X Y [g]) (hh : Holds Y g cs') (hc : 0 < cs'.length) (hg : w.heap.size ≤ g) : Hq w Y E ((g, cs') :: L) := by
  have hnd := h.nd
  simp only [List.map_cons, List.nodup_cons] at hnd
  refine ⟨h.fr.trans hf (fun b hb => .inr (by obtain rfl : b = g := (by simpa using hb); exact hg)), fun q hq => ?_, by simpa using hnd⟩
  rcases List.mem_cons.1 hq with rfl | hq
  · exact ⟨hh, hc⟩
  · have h1 := h.all q (List.mem_cons_of_mem _ hq)
    have hne : q.1 ≠ g := fun e => hnd.1 (e ▸ List.mem_map_of_mem hq)
    exact ⟨h1.1.far (h1.1.lt h1.2) hf hne, h1.2⟩
def SPost (w : World) (bad : Nat → Bool) (n : Nat) (e : Ending) (w' : World) : Prop := ∃ r : Int, e = .returned (.int .i64 r) ∧ FirstBad bad n r ∧ Below w.heap.size w w'
theorem good_zero (l : List SH) : GoodM l (List.replicate l.length 0) 0 := fun j m hj hm => by
  exfalso
  have := List.mem_of_getElem? hj
  exact hm (List.eq_of_mem_replicate this)
set_option maxHeartbeats 4000000 in
set_option maxRecDepth 100000 in
theorem sound4 (A : Option Addr) (cap : Nat) (l : List SH) (w : World) (hR : ReadsS w A l) (hn : l.length ≤ 300) (hT : Lib.Utf8Tabs 1 2 w) : Calls Tryd.prog 4 #[.slice A l.length cap] w (SPost w (badP l) l.length) := by
  have HR := hide hR
  have HN := hide hn
  have HT := hide hT
  clear hR hn hT
  by_cases h0 : l.length = 0
  · have hl : l = [] := List.eq_nil_of_length_eq_zero h0
    subst hl
    go_enter Tryd.func4, Tryd.ntmps4
    go_wp2_with fail
    refine (newMoment7 A ([] : List SH).length cap _ (by simp)).mono ?_
    rintro e X1 ⟨g, rfl, hg, hb, hh⟩
    have LL := hide ((Hq.nil w []).on hb)
    clear hb hh
    go_wp2_with (first | go_skip | ((with_reducible show wpList _ _ _ _ _ _); first | ((refine alG 34 ([.slice none 0 0, .slice none 0 0]) (by rfl) rfl (fun w => by kernel_rfl) (Nat.succ_pos _) (unhide LL) ?_); intro X1 B1 hE1 L1 hb1; have hB1 := hide (Nat.le_trans (unhide LL).fr.size (Nat.le_of_eq hE1.symm)); replace LL := hide L1; clear L1 hb1 hE1; simp only [Act.put, List.setIfInBounds_toArray, List.set_cons_succ, List.set_cons_zero]) | ((refine st (vs := [.slice A ([] : List SH).length cap, .slice (some ⟨g, 0, none⟩) ([] : List SH).length ([] : List SH).length]) 0 34 (by rfl) rfl rfl rfl rfl (by simp [Value.oneCell']) (siz34) (unhide LL) rfl (by simp [cput, PR.cs, SH.cs, VV.cs, KK.cs, DD.cs]) (Or.inr (unhide hB1)) ?_); intro X4 L4 hf4 hs4; replace LL := hide L4; clear L4 hf4 hs4; simp only [Act.put, List.setIfInBounds_toArray, List.set_cons_succ, List.set_cons_zero]) | ((refine rd (by rfl) (ex_lenG 22 28 Tryd.underlying22 rfl rfl) ?_); simp only [Act.put, List.setIfInBounds_toArray, List.set_cons_succ, List.set_cons_zero])))
    go_loopg [10] 0 (fun gm s10 wr => s10 = .int .i64 0 ∧ Hid (Fr w wr []))
    case atStart => exact ⟨rfl, hide (unhide LL).fr⟩
    case round =>
      clear LL
      obtain ⟨rfl, HF⟩ := hrel
      go_wp2
      go_ret
      exact ⟨-1, rfl, .inl ⟨rfl, fun j hj => absurd hj (Nat.not_lt_zero _)⟩, (unhide HF).below⟩
  · have HPOS : Hid (0 < l.length) := hide (by omega)
    clear h0
    go_enter Tryd.func4, Tryd.ntmps4
    go_wp2_with fail
    refine (newMoment7 A l.length cap _ (by have := unhide HN; omega)).mono ?_
    rintro e X1 ⟨g, rfl, hg, hb, hh⟩
    have HG := hide hg
    have LL : Hid (Hq w X1 [] [(g, mc (List.replicate l.length 0))]) := hide (((Hq.nil w []).on hb).add hh (by rw [mc_length]; simp; exact unhide HPOS) (by simp))
    clear hg hb hh
    go_wp2_with (first | go_skip | ((with_reducible show wpList _ _ _ _ _ _); first | ((refine alG 34 ([.slice none 0 0, .slice none 0 0]) (by rfl) rfl (fun w => by kernel_rfl) (Nat.succ_pos _) (unhide LL) ?_); intro X1 B1 hE1 L1 hb1; have hB1 := hide (Nat.le_trans (unhide LL).fr.size (Nat.le_of_eq hE1.symm)); replace LL := hide L1; clear L1 hb1 hE1; simp only [Act.put, List.setIfInBounds_toArray, List.set_cons_succ, List.set_cons_zero]) | ((refine st (vs := [.slice A l.length cap, .slice (some ⟨g, 0, none⟩) l.length l.length]) 1 34 (by rfl) rfl rfl rfl rfl (by simp [Value.oneCell']) (siz34) (unhide LL) rfl (by simp [cput, PR.cs, SH.cs, VV.cs, KK.cs, DD.cs]) (Or.inr (unhide hB1)) ?_); intro X4 L4 hf4 hs4; replace LL := hide L4; clear L4 hf4 hs4; simp only [Act.put, List.setIfInBounds_toArray, List.set_cons_succ, List.set_cons_zero]) | ((refine rd (by rfl) (ex_lenG 22 28 Tryd.underlying22 rfl rfl) ?_); simp only [Act.put, List.setIfInBounds_toArray, List.set_cons_succ, List.set_cons_zero])))
    go_loopg [10] l.length (fun gm s10 wr => ∃ (i : Nat) (met : List Nat), s10 = .int .i64 (i : Nat) ∧ i ≤ l.length ∧ l.length - i ≤ gm ∧ Hid (∀ j, j < i → badP l j = false) ∧ Hid (met.length = l.length ∧ GoodM l met i) ∧ Hid (Hq w wr [] [(g, mc met), (B1, [.slice A l.length cap, .slice (some ⟨g, 0, none⟩) l.length l.length])]))
    case atStart => exact ⟨0, List.replicate l.length 0, rfl, by omega, by omega, hide (fun j hj => absurd hj (Nat.not_lt_zero _)), hide ⟨by simp, good_zero l⟩, LL⟩
    case round =>
      clear LL
      obtain ⟨i, met, rfl, hil, hgm, HB, HM, LL⟩ := hrel
      by_cases hlt : i < l.length
      · have dlt : decide ((i : Int) < (l.length : Int)) = true := decide_eq_true (by omega)
        have hw1 : IntKind.i64.wrap ((i : Int) + 1) = (i : Int) + 1 := by have := unhide HN; rw [IntKind.wrap_i64]; omega
        obtain ⟨s, hs⟩ : ∃ s, l[i]? = some s := ⟨_, List.getElem?_eq_getElem hlt⟩
        obtain ⟨hx64, hz, b, off, SA, sc, hA, hb, hps, hrg⟩ := (unhide HR) i s hs
        subst hA
        have HA2 : Hid (∀ X, Fr w X [] → X.rangeAt b (off + i * 8) (s.cs SA sc)) := hide (fun X hX => rangeAt_fr hrg hb hX)
        have HPS := hide hps
        have HZ := hide hz
        have HLT := hide hlt
        have hbad : badP l i = (!prP s.p l.length || !tL l i || !dstV s.ps || !whV l.length s.ps) := by unfold badP; rw [hs]
        clear hb hrg hps hz hx64 hs hlt hil
        have HPR := hide (fun w hT => prototype8 (some ⟨b, off, none⟩) l.length cap (.slice (some ⟨g, 0, none⟩) l.length l.length) s.p w hT)
        rw [vagg] at HPR
        generalize prP s.p l.length = g1 at *
        cases g1
        · have HBI : Hid (badP l i = true) := hide (hbad.trans (by simp))
          clear hbad
          go_wp2_with (first | go_skip | ((with_reducible show wpList _ _ _ _ _ _); first | ((refine rd (by rfl) (ex_lenG 22 28 Tryd.underlying22 rfl rfl) ?_); simp only [Act.put, List.setIfInBounds_toArray, List.set_cons_succ, List.set_cons_zero]) | ((refine rd (by rfl) (ex_indexG 22 8 i und22 idx22 rfl rfl rfl (unhide HLT)) ?_); simp only [Act.put, List.setIfInBounds_toArray, List.set_cons_succ, List.set_cons_zero]) | ((refine rd (by rfl) (ex_loadR (vs := s.cs SA sc) 28 8 row28 siz28 rfl rfl (unhide HA2 _ (unhide LL).fr) rfl) ?_); simp only [Act.put, List.setIfInBounds_toArray, List.set_cons_succ, List.set_cons_zero]) | ((refine alG 28 (zeroS.cs none 0) (by rfl) rfl (fun w => by kernel_rfl) (Nat.succ_pos _) (unhide LL) ?_); intro X5 B5 hE5 L5 hb5; have hB5 := hide (Nat.le_trans (unhide LL).fr.size (Nat.le_of_eq hE5.symm)); replace LL := hide L5; clear L5 hb5 hE5; simp only [Act.put, List.setIfInBounds_toArray, List.set_cons_succ, List.set_cons_zero]) | ((refine st (vs := s.cs SA sc) 2 28 (by rfl) rfl rfl rfl rfl (shcs_one s SA sc) (siz28) (unhide LL) rfl (by simp [cput, PR.cs, SH.cs, VV.cs, KK.cs, DD.cs]) (Or.inr (unhide hB5)) ?_); intro X6 L6 hf6 hs6; replace LL := hide L6; clear L6 hf6 hs6; simp only [Act.put, List.setIfInBounds_toArray, List.set_cons_succ, List.set_cons_zero]) | ((refine rd (by rfl) (ex_loadN (vs := [.slice (some ⟨b, off, none⟩) l.length cap, .slice (some ⟨g, 0, none⟩) l.length l.length]) 34 2 row34 siz34 rfl rfl ((unhide LL).get 1 rfl) rfl rfl) ?_); simp only [Act.put, List.setIfInBounds_toArray, List.set_cons_succ, List.set_cons_zero]) | ((refine rd (by rfl) (ex_loadN (vs := s.p.cs) 25 5 row25 siz25 rfl rfl ((unhide LL).get 2 rfl) rfl rfl) ?_); simp only [Act.put, List.setIfInBounds_toArray, List.set_cons_succ, List.set_cons_zero]) | ((refine rd (by rfl) (ex_load1 26 Tryd.isAgg26 rfl rfl ((unhide LL).get 2 rfl) rfl) ?_); simp only [Act.put, List.setIfInBounds_toArray, List.set_cons_succ, List.set_cons_zero])))
          refine (unhide HPR _ (tabs_below (unhide HT) (unhide LL).fr.below)).mono ?_
          rintro e X7 ⟨rfl, hb⟩
          replace LL := hide ((unhide LL).on hb)
          clear hb
          go_wp2
          go_ret
          exact ⟨(i : Int), rfl, .inr ⟨i, unhide HLT, rfl, unhide HBI, unhide HB⟩, (unhide LL).fr.below⟩
        · obtain ⟨g2, ht⟩ : ∃ g2, tL l i = g2 := ⟨_, rfl⟩
          rw [ht] at hbad
          cases g2
          · have HBI : Hid (badP l i = true) := hide (hbad.trans (by simp))
            clear hbad
            go_wp2_with (first | go_skip | ((with_reducible show wpList _ _ _ _ _ _); first | ((refine rd (by rfl) (ex_lenG 22 28 Tryd.underlying22 rfl rfl) ?_); simp only [Act.put, List.setIfInBounds_toArray, List.set_cons_succ, List.set_cons_zero]) | ((refine rd (by rfl) (ex_indexG 22 8 i und22 idx22 rfl rfl rfl (unhide HLT)) ?_); simp only [Act.put, List.setIfInBounds_toArray, List.set_cons_succ, List.set_cons_zero]) | ((refine rd (by rfl) (ex_loadR (vs := s.cs SA sc) 28 8 row28 siz28 rfl rfl (unhide HA2 _ (unhide LL).fr) rfl) ?_); simp only [Act.put, List.setIfInBounds_toArray, List.set_cons_succ, List.set_cons_zero]) | ((refine alG 28 (zeroS.cs none 0) (by rfl) rfl (fun w => by kernel_rfl) (Nat.succ_pos _) (unhide LL) ?_); intro X5 B5 hE5 L5 hb5; have hB5 := hide (Nat.le_trans (unhide LL).fr.size (Nat.le_of_eq hE5.symm)); replace LL := hide L5; clear L5 hb5 hE5; simp only [Act.put, List.setIfInBounds_toArray, List.set_cons_succ, List.set_cons_zero]) | ((refine st (vs := s.cs SA sc) 2 28 (by rfl) rfl rfl rfl rfl (shcs_one s SA sc) (siz28) (unhide LL) rfl (by simp [cput, PR.cs, SH.cs, VV.cs, KK.cs, DD.cs]) (Or.inr (unhide hB5)) ?_); intro X6 L6 hf6 hs6; replace LL := hide L6; clear L6 hf6 hs6; simp only [Act.put, List.setIfInBounds_toArray, List.set_cons_succ, List.set_cons_zero]) | ((refine rd (by rfl) (ex_loadN (vs := [.slice (some ⟨b, off, none⟩) l.length cap, .slice (some ⟨g, 0, none⟩) l.length l.length]) 34 2 row34 siz34 rfl rfl ((unhide LL).get 1 rfl) rfl rfl) ?_); simp only [Act.put, List.setIfInBounds_toArray, List.set_cons_succ, List.set_cons_zero]) | ((refine rd (by rfl) (ex_loadN (vs := s.p.cs) 25 5 row25 siz25 rfl rfl ((unhide LL).get 2 rfl) rfl rfl) ?_); simp only [Act.put, List.setIfInBounds_toArray, List.set_cons_succ, List.set_cons_zero]) | ((refine rd (by rfl) (ex_load1 26 Tryd.isAgg26 rfl rfl ((unhide LL).get 2 rfl) rfl) ?_); simp only [Act.put, List.setIfInBounds_toArray, List.set_cons_succ, List.set_cons_zero])))
            refine (unhide HPR _ (tabs_below (unhide HT) (unhide LL).fr.below)).mono ?_
            rintro e X7 ⟨rfl, hb⟩
            replace LL := hide ((unhide LL).on hb)
            clear hb
            go_wp2_with (first | go_skip | ((with_reducible show wpList _ _ _ _ _ _); first | ((refine rd (by rfl) (ex_lenG 22 28 Tryd.underlying22 rfl rfl) ?_); simp only [Act.put, List.setIfInBounds_toArray, List.set_cons_succ, List.set_cons_zero]) | ((refine rd (by rfl) (ex_indexG 22 8 i und22 idx22 rfl rfl rfl (unhide HLT)) ?_); simp only [Act.put, List.setIfInBounds_toArray, List.set_cons_succ, List.set_cons_zero]) | ((refine rd (by rfl) (ex_loadR (vs := s.cs SA sc) 28 8 row28 siz28 rfl rfl (unhide HA2 _ (unhide LL).fr) rfl) ?_); simp only [Act.put, List.setIfInBounds_toArray, List.set_cons_succ, List.set_cons_zero]) | ((refine alG 28 (zeroS.cs none 0) (by rfl) rfl (fun w => by kernel_rfl) (Nat.succ_pos _) (unhide LL) ?_); intro X5 B5 hE5 L5 hb5; have hB5 := hide (Nat.le_trans (unhide LL).fr.size (Nat.le_of_eq hE5.symm)); replace LL := hide L5; clear L5 hb5 hE5; simp only [Act.put, List.setIfInBounds_toArray, List.set_cons_succ, List.set_cons_zero]) | ((refine st (vs := s.cs SA sc) 2 28 (by rfl) rfl rfl rfl rfl (shcs_one s SA sc) (siz28) (unhide LL) rfl (by simp [cput, PR.cs, SH.cs, VV.cs, KK.cs, DD.cs]) (Or.inr (unhide hB5)) ?_); intro X6 L6 hf6 hs6; replace LL := hide L6; clear L6 hf6 hs6; simp only [Act.put, List.setIfInBounds_toArray, List.set_cons_succ, List.set_cons_zero]) | ((refine rd (by rfl) (ex_loadN (vs := [.slice (some ⟨b, off, none⟩) l.length cap, .slice (some ⟨g, 0, none⟩) l.length l.length]) 34 2 row34 siz34 rfl rfl ((unhide LL).get 1 rfl) rfl rfl) ?_); simp only [Act.put, List.setIfInBounds_toArray, List.set_cons_succ, List.set_cons_zero]) | ((refine rd (by rfl) (ex_loadN (vs := s.p.cs) 25 5 row25 siz25 rfl rfl ((unhide LL).get 2 rfl) rfl rfl) ?_); simp only [Act.put, List.setIfInBounds_toArray, List.set_cons_succ, List.set_cons_zero]) | ((refine rd (by rfl) (ex_load1 26 Tryd.isAgg26 rfl rfl ((unhide LL).get 2 rfl) rfl) ?_); simp only [Act.put, List.setIfInBounds_toArray, List.set_cons_succ, List.set_cons_zero])))
            refine (round9 (some ⟨b, off, none⟩) cap l.length g l met i w _ (unhide HR) (unhide LL).fr (unhide HG) (by have := unhide HN; omega) (unhide HLT) ((unhide LL).get 0 rfl) (unhide HM).1 (unhide HM).2 (unhide HT)).mono ?_
            rintro e X8 ⟨met2, rfl, hf8, hh8, hl8, hg8⟩
            replace LL := hide (Hq.change (unhide LL) hf8 hh8 (by rw [mc_length, hl8]; have := unhide HLT; omega) (unhide HG))
            have HM2 := hide (And.intro hl8 hg8)
            clear hf8 hh8 hl8 hg8
            rw [ht]
            go_wp2
            go_ret
            exact ⟨(i : Int), rfl, .inr ⟨i, unhide HLT, rfl, unhide HBI, unhide HB⟩, (unhide LL).fr.below⟩
          · obtain ⟨g3, hd⟩ : ∃ g3, dstV s.ps = g3 := ⟨_, rfl⟩
            rw [hd] at hbad
            cases g3
            · have HBI : Hid (badP l i = true) := hide (hbad.trans (by simp))
              clear hbad
              go_wp2_with (first | go_skip | ((with_reducible show wpList _ _ _ _ _ _); first | ((refine rd (by rfl) (ex_lenG 22 28 Tryd.underlying22 rfl rfl) ?_); simp only [Act.put, List.setIfInBounds_toArray, List.set_cons_succ, List.set_cons_zero]) | ((refine rd (by rfl) (ex_indexG 22 8 i und22 idx22 rfl rfl rfl (unhide HLT)) ?_); simp only [Act.put, List.setIfInBounds_toArray, List.set_cons_succ, List.set_cons_zero]) | ((refine rd (by rfl) (ex_loadR (vs := s.cs SA sc) 28 8 row28 siz28 rfl rfl (unhide HA2 _ (unhide LL).fr) rfl) ?_); simp only [Act.put, List.setIfInBounds_toArray, List.set_cons_succ, List.set_cons_zero]) | ((refine alG 28 (zeroS.cs none 0) (by rfl) rfl (fun w => by kernel_rfl) (Nat.succ_pos _) (unhide LL) ?_); intro X5 B5 hE5 L5 hb5; have hB5 := hide (Nat.le_trans (unhide LL).fr.size (Nat.le_of_eq hE5.symm)); replace LL := hide L5; clear L5 hb5 hE5; simp only [Act.put, List.setIfInBounds_toArray, List.set_cons_succ, List.set_cons_zero]) | ((refine st (vs := s.cs SA sc) 2 28 (by rfl) rfl rfl rfl rfl (shcs_one s SA sc) (siz28) (unhide LL) rfl (by simp [cput, PR.cs, SH.cs, VV.cs, KK.cs, DD.cs]) (Or.inr (unhide hB5)) ?_); intro X6 L6 hf6 hs6; replace LL := hide L6; clear L6 hf6 hs6; simp only [Act.put, List.setIfInBounds_toArray, List.set_cons_succ, List.set_cons_zero]) | ((refine rd (by rfl) (ex_loadN (vs := [.slice (some ⟨b, off, none⟩) l.length cap, .slice (some ⟨g, 0, none⟩) l.length l.length]) 34 2 row34 siz34 rfl rfl ((unhide LL).get 1 rfl) rfl rfl) ?_); simp only [Act.put, List.setIfInBounds_toArray, List.set_cons_succ, List.set_cons_zero]) | ((refine rd (by rfl) (ex_loadN (vs := s.p.cs) 25 5 row25 siz25 rfl rfl ((unhide LL).get 2 rfl) rfl rfl) ?_); simp only [Act.put, List.setIfInBounds_toArray, List.set_cons_succ, List.set_cons_zero]) | ((refine rd (by rfl) (ex_load1 26 Tryd.isAgg26 rfl rfl ((unhide LL).get 2 rfl) rfl) ?_); simp only [Act.put, List.setIfInBounds_toArray, List.set_cons_succ, List.set_cons_zero])))
              refine (unhide HPR _ (tabs_below (unhide HT) (unhide LL).fr.below)).mono ?_
              rintro e X7 ⟨rfl, hb⟩
              replace LL := hide ((unhide LL).on hb)
              clear hb
              go_wp2_with (first | go_skip | ((with_reducible show wpList _ _ _ _ _ _); first | ((refine rd (by rfl) (ex_lenG 22 28 Tryd.underlying22 rfl rfl) ?_); simp only [Act.put, List.setIfInBounds_toArray, List.set_cons_succ, List.set_cons_zero]) | ((refine rd (by rfl) (ex_indexG 22 8 i und22 idx22 rfl rfl rfl (unhide HLT)) ?_); simp only [Act.put, List.setIfInBounds_toArray, List.set_cons_succ, List.set_cons_zero]) | ((refine rd (by rfl) (ex_loadR (vs := s.cs SA sc) 28 8 row28 siz28 rfl rfl (unhide HA2 _ (unhide LL).fr) rfl) ?_); simp only [Act.put, List.setIfInBounds_toArray, List.set_cons_succ, List.set_cons_zero]) | ((refine alG 28 (zeroS.cs none 0) (by rfl) rfl (fun w => by kernel_rfl) (Nat.succ_pos _) (unhide LL) ?_); intro X5 B5 hE5 L5 hb5; have hB5 := hide (Nat.le_trans (unhide LL).fr.size (Nat.le_of_eq hE5.symm)); replace LL := hide L5; clear L5 hb5 hE5; simp only [Act.put, List.setIfInBounds_toArray, List.set_cons_succ, List.set_cons_zero]) | ((refine st (vs := s.cs SA sc) 2 28 (by rfl) rfl rfl rfl rfl (shcs_one s SA sc) (siz28) (unhide LL) rfl (by simp [cput, PR.cs, SH.cs, VV.cs, KK.cs, DD.cs]) (Or.inr (unhide hB5)) ?_); intro X6 L6 hf6 hs6; replace LL := hide L6; clear L6 hf6 hs6; simp only [Act.put, List.setIfInBounds_toArray, List.set_cons_succ, List.set_cons_zero]) | ((refine rd (by rfl) (ex_loadN (vs := [.slice (some ⟨b, off, none⟩) l.length cap, .slice (some ⟨g, 0, none⟩) l.length l.length]) 34 2 row34 siz34 rfl rfl ((unhide LL).get 1 rfl) rfl rfl) ?_); simp only [Act.put, List.setIfInBounds_toArray, List.set_cons_succ, List.set_cons_zero]) | ((refine rd (by rfl) (ex_loadN (vs := s.p.cs) 25 5 row25 siz25 rfl rfl ((unhide LL).get 2 rfl) rfl rfl) ?_); simp only [Act.put, List.setIfInBounds_toArray, List.set_cons_succ, List.set_cons_zero]) | ((refine rd (by rfl) (ex_load1 26 Tryd.isAgg26 rfl rfl ((unhide LL).get 2 rfl) rfl) ?_); simp only [Act.put, List.setIfInBounds_toArray, List.set_cons_succ, List.set_cons_zero])))
              refine (round9 (some ⟨b, off, none⟩) cap l.length g l met i w _ (unhide HR) (unhide LL).fr (unhide HG) (by have := unhide HN; omega) (unhide HLT) ((unhide LL).get 0 rfl) (unhide HM).1 (unhide HM).2 (unhide HT)).mono ?_
              rintro e X8 ⟨met2, rfl, hf8, hh8, hl8, hg8⟩
              replace LL := hide (Hq.change (unhide LL) hf8 hh8 (by rw [mc_length, hl8]; have := unhide HLT; omega) (unhide HG))
              have HM2 := hide (And.intro hl8 hg8)
              clear hf8 hh8 hl8 hg8
              rw [ht]
              go_wp2_with (first | go_skip | ((with_reducible show wpList _ _ _ _ _ _); first | ((refine rd (by rfl) (ex_lenG 22 28 Tryd.underlying22 rfl rfl) ?_); simp only [Act.put, List.setIfInBounds_toArray, List.set_cons_succ, List.set_cons_zero]) | ((refine rd (by rfl) (ex_indexG 22 8 i und22 idx22 rfl rfl rfl (unhide HLT)) ?_); simp only [Act.put, List.setIfInBounds_toArray, List.set_cons_succ, List.set_cons_zero]) | ((refine rd (by rfl) (ex_loadR (vs := s.cs SA sc) 28 8 row28 siz28 rfl rfl (unhide HA2 _ (unhide LL).fr) rfl) ?_); simp only [Act.put, List.setIfInBounds_toArray, List.set_cons_succ, List.set_cons_zero]) | ((refine alG 28 (zeroS.cs none 0) (by rfl) rfl (fun w => by kernel_rfl) (Nat.succ_pos _) (unhide LL) ?_); intro X5 B5 hE5 L5 hb5; have hB5 := hide (Nat.le_trans (unhide LL).fr.size (Nat.le_of_eq hE5.symm)); replace LL := hide L5; clear L5 hb5 hE5; simp only [Act.put, List.setIfInBounds_toArray, List.set_cons_succ, List.set_cons_zero]) | ((refine st (vs := s.cs SA sc) 2 28 (by rfl) rfl rfl rfl rfl (shcs_one s SA sc) (siz28) (unhide LL) rfl (by simp [cput, PR.cs, SH.cs, VV.cs, KK.cs, DD.cs]) (Or.inr (unhide hB5)) ?_); intro X6 L6 hf6 hs6; replace LL := hide L6; clear L6 hf6 hs6; simp only [Act.put, List.setIfInBounds_toArray, List.set_cons_succ, List.set_cons_zero]) | ((refine rd (by rfl) (ex_loadN (vs := [.slice (some ⟨b, off, none⟩) l.length cap, .slice (some ⟨g, 0, none⟩) l.length l.length]) 34 2 row34 siz34 rfl rfl ((unhide LL).get 1 rfl) rfl rfl) ?_); simp only [Act.put, List.setIfInBounds_toArray, List.set_cons_succ, List.set_cons_zero]) | ((refine rd (by rfl) (ex_loadN (vs := s.p.cs) 25 5 row25 siz25 rfl rfl ((unhide LL).get 2 rfl) rfl rfl) ?_); simp only [Act.put, List.setIfInBounds_toArray, List.set_cons_succ, List.set_cons_zero]) | ((refine rd (by rfl) (ex_load1 26 Tryd.isAgg26 rfl rfl ((unhide LL).get 2 rfl) rfl) ?_); simp only [Act.put, List.setIfInBounds_toArray, List.set_cons_succ, List.set_cons_zero])))
              refine (distinct10 SA sc s.ps _ ((unhide HPS).fr (unhide LL).fr) (unhide HZ) (tabs_below (unhide HT) (unhide LL).fr.below)).mono ?_
              rintro e X9 ⟨rfl, hb⟩
              replace LL := hide ((unhide LL).on hb)
              clear hb
              rw [hd]
              go_wp2
              go_ret
              exact ⟨(i : Int), rfl, .inr ⟨i, unhide HLT, rfl, unhide HBI, unhide HB⟩, (unhide LL).fr.below⟩
            · obtain ⟨g4, hwh⟩ : ∃ g4, whV l.length s.ps = g4 := ⟨_, rfl⟩
              rw [hwh] at hbad
              cases g4
              · have HBI : Hid (badP l i = true) := hide (hbad.trans (by simp))
                clear hbad
                go_wp2_with (first | go_skip | ((with_reducible show wpList _ _ _ _ _ _); first | ((refine rd (by rfl) (ex_lenG 22 28 Tryd.underlying22 rfl rfl) ?_); simp only [Act.put, List.setIfInBounds_toArray, List.set_cons_succ, List.set_cons_zero]) | ((refine rd (by rfl) (ex_indexG 22 8 i und22 idx22 rfl rfl rfl (unhide HLT)) ?_); simp only [Act.put, List.setIfInBounds_toArray, List.set_cons_succ, List.set_cons_zero]) | ((refine rd (by rfl) (ex_loadR (vs := s.cs SA sc) 28 8 row28 siz28 rfl rfl (unhide HA2 _ (unhide LL).fr) rfl) ?_); simp only [Act.put, List.setIfInBounds_toArray, List.set_cons_succ, List.set_cons_zero]) | ((refine alG 28 (zeroS.cs none 0) (by rfl) rfl (fun w => by kernel_rfl) (Nat.succ_pos _) (unhide LL) ?_); intro X5 B5 hE5 L5 hb5; have hB5 := hide (Nat.le_trans (unhide LL).fr.size (Nat.le_of_eq hE5.symm)); replace LL := hide L5; clear L5 hb5 hE5; simp only [Act.put, List.setIfInBounds_toArray, List.set_cons_succ, List.set_cons_zero]) | ((refine st (vs := s.cs SA sc) 2 28 (by rfl) rfl rfl rfl rfl (shcs_one s SA sc) (siz28) (unhide LL) rfl (by simp [cput, PR.cs, SH.cs, VV.cs, KK.cs, DD.cs]) (Or.inr (unhide hB5)) ?_); intro X6 L6 hf6 hs6; replace LL := hide L6; clear L6 hf6 hs6; simp only [Act.put, List.setIfInBounds_toArray, List.set_cons_succ, List.set_cons_zero]) | ((refine rd (by rfl) (ex_loadN (vs := [.slice (some ⟨b, off, none⟩) l.length cap, .slice (some ⟨g, 0, none⟩) l.length l.length]) 34 2 row34 siz34 rfl rfl ((unhide LL).get 1 rfl) rfl rfl) ?_); simp only [Act.put, List.setIfInBounds_toArray, List.set_cons_succ, List.set_cons_zero]) | ((refine rd (by rfl) (ex_loadN (vs := s.p.cs) 25 5 row25 siz25 rfl rfl ((unhide LL).get 2 rfl) rfl rfl) ?_); simp only [Act.put, List.setIfInBounds_toArray, List.set_cons_succ, List.set_cons_zero]) | ((refine rd (by rfl) (ex_load1 26 Tryd.isAgg26 rfl rfl ((unhide LL).get 2 rfl) rfl) ?_); simp only [Act.put, List.setIfInBounds_toArray, List.set_cons_succ, List.set_cons_zero])))
                refine (unhide HPR _ (tabs_below (unhide HT) (unhide LL).fr.below)).mono ?_
                rintro e X7 ⟨rfl, hb⟩
                replace LL := hide ((unhide LL).on hb)
                clear hb
                go_wp2_with (first | go_skip | ((with_reducible show wpList _ _ _ _ _ _); first | ((refine rd (by rfl) (ex_lenG 22 28 Tryd.underlying22 rfl rfl) ?_); simp only [Act.put, List.setIfInBounds_toArray, List.set_cons_succ, List.set_cons_zero]) | ((refine rd (by rfl) (ex_indexG 22 8 i und22 idx22 rfl rfl rfl (unhide HLT)) ?_); simp only [Act.put, List.setIfInBounds_toArray, List.set_cons_succ, List.set_cons_zero]) | ((refine rd (by rfl) (ex_loadR (vs := s.cs SA sc) 28 8 row28 siz28 rfl rfl (unhide HA2 _ (unhide LL).fr) rfl) ?_); simp only [Act.put, List.setIfInBounds_toArray, List.set_cons_succ, List.set_cons_zero]) | ((refine alG 28 (zeroS.cs none 0) (by rfl) rfl (fun w => by kernel_rfl) (Nat.succ_pos _) (unhide LL) ?_); intro X5 B5 hE5 L5 hb5; have hB5 := hide (Nat.le_trans (unhide LL).fr.size (Nat.le_of_eq hE5.symm)); replace LL := hide L5; clear L5 hb5 hE5; simp only [Act.put, List.setIfInBounds_toArray, List.set_cons_succ, List.set_cons_zero]) | ((refine st (vs := s.cs SA sc) 2 28 (by rfl) rfl rfl rfl rfl (shcs_one s SA sc) (siz28) (unhide LL) rfl (by simp [cput, PR.cs, SH.cs, VV.cs, KK.cs, DD.cs]) (Or.inr (unhide hB5)) ?_); intro X6 L6 hf6 hs6; replace LL := hide L6; clear L6 hf6 hs6; simp only [Act.put, List.setIfInBounds_toArray, List.set_cons_succ, List.set_cons_zero]) | ((refine rd (by rfl) (ex_loadN (vs := [.slice (some ⟨b, off, none⟩) l.length cap, .slice (some ⟨g, 0, none⟩) l.length l.length]) 34 2 row34 siz34 rfl rfl ((unhide LL).get 1 rfl) rfl rfl) ?_); simp only [Act.put, List.setIfInBounds_toArray, List.set_cons_succ, List.set_cons_zero]) | ((refine rd (by rfl) (ex_loadN (vs := s.p.cs) 25 5 row25 siz25 rfl rfl ((unhide LL).get 2 rfl) rfl rfl) ?_); simp only [Act.put, List.setIfInBounds_toArray, List.set_cons_succ, List.set_cons_zero]) | ((refine rd (by rfl) (ex_load1 26 Tryd.isAgg26 rfl rfl ((unhide LL).get 2 rfl) rfl) ?_); simp only [Act.put, List.setIfInBounds_toArray, List.set_cons_succ, List.set_cons_zero])))
                refine (round9 (some ⟨b, off, none⟩) cap l.length g l met i w _ (unhide HR) (unhide LL).fr (unhide HG) (by have := unhide HN; omega) (unhide HLT) ((unhide LL).get 0 rfl) (unhide HM).1 (unhide HM).2 (unhide HT)).mono ?_
                rintro e X8 ⟨met2, rfl, hf8, hh8, hl8, hg8⟩
                replace LL := hide (Hq.change (unhide LL) hf8 hh8 (by rw [mc_length, hl8]; have := unhide HLT; omega) (unhide HG))
                have HM2 := hide (And.intro hl8 hg8)
                clear hf8 hh8 hl8 hg8
                rw [ht]
                go_wp2_with (first | go_skip | ((with_reducible show wpList _ _ _ _ _ _); first | ((refine rd (by rfl) (ex_lenG 22 28 Tryd.underlying22 rfl rfl) ?_); simp only [Act.put, List.setIfInBounds_toArray, List.set_cons_succ, List.set_cons_zero]) | ((refine rd (by rfl) (ex_indexG 22 8 i und22 idx22 rfl rfl rfl (unhide HLT)) ?_); simp only [Act.put, List.setIfInBounds_toArray, List.set_cons_succ, List.set_cons_zero]) | ((refine rd (by rfl) (ex_loadR (vs := s.cs SA sc) 28 8 row28 siz28 rfl rfl (unhide HA2 _ (unhide LL).fr) rfl) ?_); simp only [Act.put, List.setIfInBounds_toArray, List.set_cons_succ, List.set_cons_zero]) | ((refine alG 28 (zeroS.cs none 0) (by rfl) rfl (fun w => by kernel_rfl) (Nat.succ_pos _) (unhide LL) ?_); intro X5 B5 hE5 L5 hb5; have hB5 := hide (Nat.le_trans (unhide LL).fr.size (Nat.le_of_eq hE5.symm)); replace LL := hide L5; clear L5 hb5 hE5; simp only [Act.put, List.setIfInBounds_toArray, List.set_cons_succ, List.set_cons_zero]) | ((refine st (vs := s.cs SA sc) 2 28 (by rfl) rfl rfl rfl rfl (shcs_one s SA sc) (siz28) (unhide LL) rfl (by simp [cput, PR.cs, SH.cs, VV.cs, KK.cs, DD.cs]) (Or.inr (unhide hB5)) ?_); intro X6 L6 hf6 hs6; replace LL := hide L6; clear L6 hf6 hs6; simp only [Act.put, List.setIfInBounds_toArray, List.set_cons_succ, List.set_cons_zero]) | ((refine rd (by rfl) (ex_loadN (vs := [.slice (some ⟨b, off, none⟩) l.length cap, .slice (some ⟨g, 0, none⟩) l.length l.length]) 34 2 row34 siz34 rfl rfl ((unhide LL).get 1 rfl) rfl rfl) ?_); simp only [Act.put, List.setIfInBounds_toArray, List.set_cons_succ, List.set_cons_zero]) | ((refine rd (by rfl) (ex_loadN (vs := s.p.cs) 25 5 row25 siz25 rfl rfl ((unhide LL).get 2 rfl) rfl rfl) ?_); simp only [Act.put, List.setIfInBounds_toArray, List.set_cons_succ, List.set_cons_zero]) | ((refine rd (by rfl) (ex_load1 26 Tryd.isAgg26 rfl rfl ((unhide LL).get 2 rfl) rfl) ?_); simp only [Act.put, List.setIfInBounds_toArray, List.set_cons_succ, List.set_cons_zero])))
                refine (distinct10 SA sc s.ps _ ((unhide HPS).fr (unhide LL).fr) (unhide HZ) (tabs_below (unhide HT) (unhide LL).fr.below)).mono ?_
                rintro e X9 ⟨rfl, hb⟩
                replace LL := hide ((unhide LL).on hb)
                clear hb
                rw [hd]
                go_wp2_with (first | go_skip | ((with_reducible show wpList _ _ _ _ _ _); first | ((refine rd (by rfl) (ex_lenG 22 28 Tryd.underlying22 rfl rfl) ?_); simp only [Act.put, List.setIfInBounds_toArray, List.set_cons_succ, List.set_cons_zero]) | ((refine rd (by rfl) (ex_indexG 22 8 i und22 idx22 rfl rfl rfl (unhide HLT)) ?_); simp only [Act.put, List.setIfInBounds_toArray, List.set_cons_succ, List.set_cons_zero]) | ((refine rd (by rfl) (ex_loadR (vs := s.cs SA sc) 28 8 row28 siz28 rfl rfl (unhide HA2 _ (unhide LL).fr) rfl) ?_); simp only [Act.put, List.setIfInBounds_toArray, List.set_cons_succ, List.set_cons_zero]) | ((refine alG 28 (zeroS.cs none 0) (by rfl) rfl (fun w => by kernel_rfl) (Nat.succ_pos _) (unhide LL) ?_); intro X5 B5 hE5 L5 hb5; have hB5 := hide (Nat.le_trans (unhide LL).fr.size (Nat.le_of_eq hE5.symm)); replace LL := hide L5; clear L5 hb5 hE5; simp only [Act.put, List.setIfInBounds_toArray, List.set_cons_succ, List.set_cons_zero]) | ((refine st (vs := s.cs SA sc) 2 28 (by rfl) rfl rfl rfl rfl (shcs_one s SA sc) (siz28) (unhide LL) rfl (by simp [cput, PR.cs, SH.cs, VV.cs, KK.cs, DD.cs]) (Or.inr (unhide hB5)) ?_); intro X6 L6 hf6 hs6; replace LL := hide L6; clear L6 hf6 hs6; simp only [Act.put, List.setIfInBounds_toArray, List.set_cons_succ, List.set_cons_zero]) | ((refine rd (by rfl) (ex_loadN (vs := [.slice (some ⟨b, off, none⟩) l.length cap, .slice (some ⟨g, 0, none⟩) l.length l.length]) 34 2 row34 siz34 rfl rfl ((unhide LL).get 1 rfl) rfl rfl) ?_); simp only [Act.put, List.setIfInBounds_toArray, List.set_cons_succ, List.set_cons_zero]) | ((refine rd (by rfl) (ex_loadN (vs := s.p.cs) 25 5 row25 siz25 rfl rfl ((unhide LL).get 2 rfl) rfl rfl) ?_); simp only [Act.put, List.setIfInBounds_toArray, List.set_cons_succ, List.set_cons_zero]) | ((refine rd (by rfl) (ex_load1 26 Tryd.isAgg26 rfl rfl ((unhide LL).get 2 rfl) rfl) ?_); simp only [Act.put, List.setIfInBounds_toArray, List.set_cons_succ, List.set_cons_zero])))
                refine (whole11 (some ⟨b, off, none⟩) l.length cap (.slice (some ⟨g, 0, none⟩) l.length l.length) SA sc s.ps _ ((unhide HPS).fr (unhide LL).fr) (unhide HZ) (tabs_below (unhide HT) (unhide LL).fr.below)).mono ?_
                rintro e X10 ⟨rfl, hb⟩
                replace LL := hide ((unhide LL).on hb)
                clear hb
                rw [hwh]
                go_wp2
                go_ret
                exact ⟨(i : Int), rfl, .inr ⟨i, unhide HLT, rfl, unhide HBI, unhide HB⟩, (unhide LL).fr.below⟩
              · have HB2 : Hid (∀ j, j < i + 1 → badP l j = false) := hide (fun j hj => by
                  rcases Nat.lt_or_ge j i with h | h
                  · exact unhide HB j h
                  · obtain rfl : j = i := by omega
                    exact hbad.trans (by rfl))
                clear hbad HB
                go_wp2_with (first | go_skip | ((with_reducible show wpList _ _ _ _ _ _); first | ((refine rd (by rfl) (ex_lenG 22 28 Tryd.underlying22 rfl rfl) ?_); simp only [Act.put, List.setIfInBounds_toArray, List.set_cons_succ, List.set_cons_zero]) | ((refine rd (by rfl) (ex_indexG 22 8 i und22 idx22 rfl rfl rfl (unhide HLT)) ?_); simp only [Act.put, List.setIfInBounds_toArray, List.set_cons_succ, List.set_cons_zero]) | ((refine rd (by rfl) (ex_loadR (vs := s.cs SA sc) 28 8 row28 siz28 rfl rfl (unhide HA2 _ (unhide LL).fr) rfl) ?_); simp only [Act.put, List.setIfInBounds_toArray, List.set_cons_succ, List.set_cons_zero]) | ((refine alG 28 (zeroS.cs none 0) (by rfl) rfl (fun w => by kernel_rfl) (Nat.succ_pos _) (unhide LL) ?_); intro X5 B5 hE5 L5 hb5; have hB5 := hide (Nat.le_trans (unhide LL).fr.size (Nat.le_of_eq hE5.symm)); replace LL := hide L5; clear L5 hb5 hE5; simp only [Act.put, List.setIfInBounds_toArray, List.set_cons_succ, List.set_cons_zero]) | ((refine st (vs := s.cs SA sc) 2 28 (by rfl) rfl rfl rfl rfl (shcs_one s SA sc) (siz28) (unhide LL) rfl (by simp [cput, PR.cs, SH.cs, VV.cs, KK.cs, DD.cs]) (Or.inr (unhide hB5)) ?_); intro X6 L6 hf6 hs6; replace LL := hide L6; clear L6 hf6 hs6; simp only [Act.put, List.setIfInBounds_toArray, List.set_cons_succ, List.set_cons_zero]) | ((refine rd (by rfl) (ex_loadN (vs := [.slice (some ⟨b, off, none⟩) l.length cap, .slice (some ⟨g, 0, none⟩) l.length l.length]) 34 2 row34 siz34 rfl rfl ((unhide LL).get 1 rfl) rfl rfl) ?_); simp only [Act.put, List.setIfInBounds_toArray, List.set_cons_succ, List.set_cons_zero]) | ((refine rd (by rfl) (ex_loadN (vs := s.p.cs) 25 5 row25 siz25 rfl rfl ((unhide LL).get 2 rfl) rfl rfl) ?_); simp only [Act.put, List.setIfInBounds_toArray, List.set_cons_succ, List.set_cons_zero]) | ((refine rd (by rfl) (ex_load1 26 Tryd.isAgg26 rfl rfl ((unhide LL).get 2 rfl) rfl) ?_); simp only [Act.put, List.setIfInBounds_toArray, List.set_cons_succ, List.set_cons_zero])))
                refine (unhide HPR _ (tabs_below (unhide HT) (unhide LL).fr.below)).mono ?_
                rintro e X7 ⟨rfl, hb⟩
                replace LL := hide ((unhide LL).on hb)
                clear hb
                go_wp2_with (first | go_skip | ((with_reducible show wpList _ _ _ _ _ _); first | ((refine rd (by rfl) (ex_lenG 22 28 Tryd.underlying22 rfl rfl) ?_); simp only [Act.put, List.setIfInBounds_toArray, List.set_cons_succ, List.set_cons_zero]) | ((refine rd (by rfl) (ex_indexG 22 8 i und22 idx22 rfl rfl rfl (unhide HLT)) ?_); simp only [Act.put, List.setIfInBounds_toArray, List.set_cons_succ, List.set_cons_zero]) | ((refine rd (by rfl) (ex_loadR (vs := s.cs SA sc) 28 8 row28 siz28 rfl rfl (unhide HA2 _ (unhide LL).fr) rfl) ?_); simp only [Act.put, List.setIfInBounds_toArray, List.set_cons_succ, List.set_cons_zero]) | ((refine alG 28 (zeroS.cs none 0) (by rfl) rfl (fun w => by kernel_rfl) (Nat.succ_pos _) (unhide LL) ?_); intro X5 B5 hE5 L5 hb5; have hB5 := hide (Nat.le_trans (unhide LL).fr.size (Nat.le_of_eq hE5.symm)); replace LL := hide L5; clear L5 hb5 hE5; simp only [Act.put, List.setIfInBounds_toArray, List.set_cons_succ, List.set_cons_zero]) | ((refine st (vs := s.cs SA sc) 2 28 (by rfl) rfl rfl rfl rfl (shcs_one s SA sc) (siz28) (unhide LL) rfl (by simp [cput, PR.cs, SH.cs, VV.cs, KK.cs, DD.cs]) (Or.inr (unhide hB5)) ?_); intro X6 L6 hf6 hs6; replace LL := hide L6; clear L6 hf6 hs6; simp only [Act.put, List.setIfInBounds_toArray, List.set_cons_succ, List.set_cons_zero]) | ((refine rd (by rfl) (ex_loadN (vs := [.slice (some ⟨b, off, none⟩) l.length cap, .slice (some ⟨g, 0, none⟩) l.length l.length]) 34 2 row34 siz34 rfl rfl ((unhide LL).get 1 rfl) rfl rfl) ?_); simp only [Act.put, List.setIfInBounds_toArray, List.set_cons_succ, List.set_cons_zero]) | ((refine rd (by rfl) (ex_loadN (vs := s.p.cs) 25 5 row25 siz25 rfl rfl ((unhide LL).get 2 rfl) rfl rfl) ?_); simp only [Act.put, List.setIfInBounds_toArray, List.set_cons_succ, List.set_cons_zero]) | ((refine rd (by rfl) (ex_load1 26 Tryd.isAgg26 rfl rfl ((unhide LL).get 2 rfl) rfl) ?_); simp only [Act.put, List.setIfInBounds_toArray, List.set_cons_succ, List.set_cons_zero])))
                refine (round9 (some ⟨b, off, none⟩) cap l.length g l met i w _ (unhide HR) (unhide LL).fr (unhide HG) (by have := unhide HN; omega) (unhide HLT) ((unhide LL).get 0 rfl) (unhide HM).1 (unhide HM).2 (unhide HT)).mono ?_
                rintro e X8 ⟨met2, rfl, hf8, hh8, hl8, hg8⟩
                replace LL := hide (Hq.change (unhide LL) hf8 hh8 (by rw [mc_length, hl8]; have := unhide HLT; omega) (unhide HG))
                have HM2 := hide (And.intro hl8 hg8)
                clear hf8 hh8 hl8 hg8
                rw [ht]
                go_wp2_with (first | go_skip | ((with_reducible show wpList _ _ _ _ _ _); first | ((refine rd (by rfl) (ex_lenG 22 28 Tryd.underlying22 rfl rfl) ?_); simp only [Act.put, List.setIfInBounds_toArray, List.set_cons_succ, List.set_cons_zero]) | ((refine rd (by rfl) (ex_indexG 22 8 i und22 idx22 rfl rfl rfl (unhide HLT)) ?_); simp only [Act.put, List.setIfInBounds_toArray, List.set_cons_succ, List.set_cons_zero]) | ((refine rd (by rfl) (ex_loadR (vs := s.cs SA sc) 28 8 row28 siz28 rfl rfl (unhide HA2 _ (unhide LL).fr) rfl) ?_); simp only [Act.put, List.setIfInBounds_toArray, List.set_cons_succ, List.set_cons_zero]) | ((refine alG 28 (zeroS.cs none 0) (by rfl) rfl (fun w => by kernel_rfl) (Nat.succ_pos _) (unhide LL) ?_); intro X5 B5 hE5 L5 hb5; have hB5 := hide (Nat.le_trans (unhide LL).fr.size (Nat.le_of_eq hE5.symm)); replace LL := hide L5; clear L5 hb5 hE5; simp only [Act.put, List.setIfInBounds_toArray, List.set_cons_succ, List.set_cons_zero]) | ((refine st (vs := s.cs SA sc) 2 28 (by rfl) rfl rfl rfl rfl (shcs_one s SA sc) (siz28) (unhide LL) rfl (by simp [cput, PR.cs, SH.cs, VV.cs, KK.cs, DD.cs]) (Or.inr (unhide hB5)) ?_); intro X6 L6 hf6 hs6; replace LL := hide L6; clear L6 hf6 hs6; simp only [Act.put, List.setIfInBounds_toArray, List.set_cons_succ, List.set_cons_zero]) | ((refine rd (by rfl) (ex_loadN (vs := [.slice (some ⟨b, off, none⟩) l.length cap, .slice (some ⟨g, 0, none⟩) l.length l.length]) 34 2 row34 siz34 rfl rfl ((unhide LL).get 1 rfl) rfl rfl) ?_); simp only [Act.put, List.setIfInBounds_toArray, List.set_cons_succ, List.set_cons_zero]) | ((refine rd (by rfl) (ex_loadN (vs := s.p.cs) 25 5 row25 siz25 rfl rfl ((unhide LL).get 2 rfl) rfl rfl) ?_); simp only [Act.put, List.setIfInBounds_toArray, List.set_cons_succ, List.set_cons_zero]) | ((refine rd (by rfl) (ex_load1 26 Tryd.isAgg26 rfl rfl ((unhide LL).get 2 rfl) rfl) ?_); simp only [Act.put, List.setIfInBounds_toArray, List.set_cons_succ, List.set_cons_zero])))
                refine (distinct10 SA sc s.ps _ ((unhide HPS).fr (unhide LL).fr) (unhide HZ) (tabs_below (unhide HT) (unhide LL).fr.below)).mono ?_
                rintro e X9 ⟨rfl, hb⟩
                replace LL := hide ((unhide LL).on hb)
                clear hb
                rw [hd]
                go_wp2_with (first | go_skip | ((with_reducible show wpList _ _ _ _ _ _); first | ((refine rd (by rfl) (ex_lenG 22 28 Tryd.underlying22 rfl rfl) ?_); simp only [Act.put, List.setIfInBounds_toArray, List.set_cons_succ, List.set_cons_zero]) | ((refine rd (by rfl) (ex_indexG 22 8 i und22 idx22 rfl rfl rfl (unhide HLT)) ?_); simp only [Act.put, List.setIfInBounds_toArray, List.set_cons_succ, List.set_cons_zero]) | ((refine rd (by rfl) (ex_loadR (vs := s.cs SA sc) 28 8 row28 siz28 rfl rfl (unhide HA2 _ (unhide LL).fr) rfl) ?_); simp only [Act.put, List.setIfInBounds_toArray, List.set_cons_succ, List.set_cons_zero]) | ((refine alG 28 (zeroS.cs none 0) (by rfl) rfl (fun w => by kernel_rfl) (Nat.succ_pos _) (unhide LL) ?_); intro X5 B5 hE5 L5 hb5; have hB5 := hide (Nat.le_trans (unhide LL).fr.size (Nat.le_of_eq hE5.symm)); replace LL := hide L5; clear L5 hb5 hE5; simp only [Act.put, List.setIfInBounds_toArray, List.set_cons_succ, List.set_cons_zero]) | ((refine st (vs := s.cs SA sc) 2 28 (by rfl) rfl rfl rfl rfl (shcs_one s SA sc) (siz28) (unhide LL) rfl (by simp [cput, PR.cs, SH.cs, VV.cs, KK.cs, DD.cs]) (Or.inr (unhide hB5)) ?_); intro X6 L6 hf6 hs6; replace LL := hide L6; clear L6 hf6 hs6; simp only [Act.put, List.setIfInBounds_toArray, List.set_cons_succ, List.set_cons_zero]) | ((refine rd (by rfl) (ex_loadN (vs := [.slice (some ⟨b, off, none⟩) l.length cap, .slice (some ⟨g, 0, none⟩) l.length l.length]) 34 2 row34 siz34 rfl rfl ((unhide LL).get 1 rfl) rfl rfl) ?_); simp only [Act.put, List.setIfInBounds_toArray, List.set_cons_succ, List.set_cons_zero]) | ((refine rd (by rfl) (ex_loadN (vs := s.p.cs) 25 5 row25 siz25 rfl rfl ((unhide LL).get 2 rfl) rfl rfl) ?_); simp only [Act.put, List.setIfInBounds_toArray, List.set_cons_succ, List.set_cons_zero]) | ((refine rd (by rfl) (ex_load1 26 Tryd.isAgg26 rfl rfl ((unhide LL).get 2 rfl) rfl) ?_); simp only [Act.put, List.setIfInBounds_toArray, List.set_cons_succ, List.set_cons_zero])))
                refine (whole11 (some ⟨b, off, none⟩) l.length cap (.slice (some ⟨g, 0, none⟩) l.length l.length) SA sc s.ps _ ((unhide HPS).fr (unhide LL).fr) (unhide HZ) (tabs_below (unhide HT) (unhide LL).fr.below)).mono ?_
                rintro e X10 ⟨rfl, hb⟩
                replace LL := hide ((unhide LL).on hb)
                clear hb
                rw [hwh]
                go_wp2
                replace LL := hide (Hq.left (L := [(g, mc met2), (B1, [.slice (some ⟨b, off, none⟩) l.length cap, .slice (some ⟨g, 0, none⟩) l.length l.length])]) (M := [_]) (unhide LL))
                have HM3 := hide (And.intro (unhide HM2).1 ((unhide HM2).2 ht))
                go_roundg (l.length - (i + 1))
                case measure => have := unhide HLT; omega
                case rel => exact ⟨i + 1, met2, by go_num, by have := unhide HLT; omega, by omega, HB2, HM3, LL⟩
      · obtain rfl : i = l.length := by omega
        clear hlt hil
        go_wp2_with (first | go_skip | ((with_reducible show wpList _ _ _ _ _ _); first | ((refine rd (by rfl) (ex_lenG 22 28 Tryd.underlying22 rfl rfl) ?_); simp only [Act.put, List.setIfInBounds_toArray, List.set_cons_succ, List.set_cons_zero])))
        go_ret
        exact ⟨-1, rfl, .inl ⟨rfl, unhide HB⟩, (unhide LL).fr.below⟩
end Go.Proofs.YtmpdhmdmfmgamaaDoor

/-! Oq -/
namespace Go.Proofs.YtmpdhmdmfmgamaaDoor
open Go Go.Proofs Go.Maps Go.RowKit FM
set_option linter.unusedSimpArgs false
set_option linter.unusedVariables false
set_option maxHeartbeats 1000000
set_option maxHeartbeats 4000000 in
set_option maxRecDepth 100000 in
theorem refSound6 (A : Option Addr) (cap : Nat) (l : List SH) (w : World) (hR : ReadsS w A l) (hn : l.length ≤ 300) : Calls Tryd.prog 6 #[.slice A l.length cap] w (SPost w (badR l) l.length) := by
  have HR := hide hR
  have HN := hide hn
  have HF := hide (Fr.refl w [])
  clear hR hn
  go_enter Tryd.func6, Tryd.ntmps6
  go_wp2_with (first | go_skip | ((with_reducible show wpList _ _ _ _ _ _); first | ((refine rd (by rfl) (ex_lenG 22 28 Tryd.underlying22 rfl rfl) ?_); simp only [Act.put, List.setIfInBounds_toArray, List.set_cons_succ, List.set_cons_zero])))
  go_loopg [3] l.length (fun gm s3 wr => ∃ i : Nat, s3 = .int .i64 (i : Nat) ∧ i ≤ l.length ∧ l.length - i ≤ gm ∧ Hid (∀ j, j < i → badR l j = false) ∧ Hid (Fr w wr []))
  case atStart => exact ⟨0, rfl, by omega, by omega, hide (fun j hj => absurd hj (Nat.not_lt_zero _)), HF⟩
  case round =>
    clear HF
    obtain ⟨i, rfl, hil, hgm, HB, HF⟩ := hrel
    by_cases hlt : i < l.length
    · have dlt : decide ((i : Int) < (l.length : Int)) = true := decide_eq_true (by omega)
      have hw1 : IntKind.i64.wrap ((i : Int) + 1) = (i : Int) + 1 := by have := unhide HN; rw [IntKind.wrap_i64]; omega
      obtain ⟨s, hs⟩ : ∃ s, l[i]? = some s := ⟨_, List.getElem?_eq_getElem hlt⟩
      obtain ⟨hx64, hz, b, off, SA, sc, hA, hb, hps, hrg⟩ := (unhide HR) i s hs
      subst hA
      have HA2 : Hid (∀ X, Fr w X [] → X.rangeAt b (off + i * 8) (s.cs SA sc) ∧ X.rangeAt b (off + i * 8 + 1) s.p.cs) := hide (fun X hX => ⟨rangeAt_fr hrg hb hX, range_mid (rangeAt_fr hrg hb hX) 1 5⟩)
      have HLT := hide hlt
      have HNU := hide (rnull_any s.p hx64)
      have HOB := hide (robject_any s.p l.length hx64)
      rw [vagg] at HNU HOB
      have HPP := hide (fun X (hX : Fr w X []) => props17 s SA sc l.length X (hps.fr hX) hz)
      unfold SH.agg at HPP
      have hbad : badR l i = ((!nulV s.p && !obR s.p l.length) || !tL l i || !rpV l.length s.ps) := by unfold badR; rw [hs]
      clear hb hrg hps hz hx64 hs hlt hil
      obtain ⟨t, ht⟩ : ∃ t, tL l i = t := ⟨_, rfl⟩
      rw [ht] at hbad
      generalize nulV s.p = nu at *
      generalize obR s.p l.length = ob at *
      generalize rpV l.length s.ps = rp at *
      cases nu
      · cases ob
        · have HBI : Hid (badR l i = true) := hide (hbad.trans (by simp))
          clear hbad
          go_wp2_with (first | go_skip | ((with_reducible show wpList _ _ _ _ _ _); first | ((refine rd (by rfl) (ex_lenG 22 28 Tryd.underlying22 rfl rfl) ?_); simp only [Act.put, List.setIfInBounds_toArray, List.set_cons_succ, List.set_cons_zero]) | ((refine rd (by rfl) (ex_indexG 22 8 i und22 idx22 rfl rfl rfl (unhide HLT)) ?_); simp only [Act.put, List.setIfInBounds_toArray, List.set_cons_succ, List.set_cons_zero]) | ((refine rd (by rfl) (ex_loadR (vs := s.p.cs) 25 5 row25 siz25 rfl rfl (unhide HA2 _ (unhide HF)).2 rfl) ?_); simp only [Act.put, List.setIfInBounds_toArray, List.set_cons_succ, List.set_cons_zero]) | ((refine rd (by rfl) (ex_loadR (vs := s.cs SA sc) 28 8 row28 siz28 rfl rfl (unhide HA2 _ (unhide HF)).1 rfl) ?_); simp only [Act.put, List.setIfInBounds_toArray, List.set_cons_succ, List.set_cons_zero])))
          refine (unhide HNU _).mono ?_
          rintro e X1 ⟨rfl, hb⟩
          replace HF := hide ((unhide HF).on hb)
          clear hb
          go_wp2_with (first | go_skip | ((with_reducible show wpList _ _ _ _ _ _); first | ((refine rd (by rfl) (ex_lenG 22 28 Tryd.underlying22 rfl rfl) ?_); simp only [Act.put, List.setIfInBounds_toArray, List.set_cons_succ, List.set_cons_zero]) | ((refine rd (by rfl) (ex_indexG 22 8 i und22 idx22 rfl rfl rfl (unhide HLT)) ?_); simp only [Act.put, List.setIfInBounds_toArray, List.set_cons_succ, List.set_cons_zero]) | ((refine rd (by rfl) (ex_loadR (vs := s.p.cs) 25 5 row25 siz25 rfl rfl (unhide HA2 _ (unhide HF)).2 rfl) ?_); simp only [Act.put, List.setIfInBounds_toArray, List.set_cons_succ, List.set_cons_zero]) | ((refine rd (by rfl) (ex_loadR (vs := s.cs SA sc) 28 8 row28 siz28 rfl rfl (unhide HA2 _ (unhide HF)).1 rfl) ?_); simp only [Act.put, List.setIfInBounds_toArray, List.set_cons_succ, List.set_cons_zero])))
          refine (unhide HOB _).mono ?_
          rintro e X2 ⟨rfl, hb⟩
          replace HF := hide ((unhide HF).on hb)
          clear hb
          go_wp2
          go_ret
          exact ⟨(i : Int), rfl, .inr ⟨i, unhide HLT, rfl, unhide HBI, unhide HB⟩, (unhide HF).below⟩
        · cases t
          · have HBI : Hid (badR l i = true) := hide (hbad.trans (by simp))
            clear hbad
            go_wp2_with (first | go_skip | ((with_reducible show wpList _ _ _ _ _ _); first | ((refine rd (by rfl) (ex_lenG 22 28 Tryd.underlying22 rfl rfl) ?_); simp only [Act.put, List.setIfInBounds_toArray, List.set_cons_succ, List.set_cons_zero]) | ((refine rd (by rfl) (ex_indexG 22 8 i und22 idx22 rfl rfl rfl (unhide HLT)) ?_); simp only [Act.put, List.setIfInBounds_toArray, List.set_cons_succ, List.set_cons_zero]) | ((refine rd (by rfl) (ex_loadR (vs := s.p.cs) 25 5 row25 siz25 rfl rfl (unhide HA2 _ (unhide HF)).2 rfl) ?_); simp only [Act.put, List.setIfInBounds_toArray, List.set_cons_succ, List.set_cons_zero]) | ((refine rd (by rfl) (ex_loadR (vs := s.cs SA sc) 28 8 row28 siz28 rfl rfl (unhide HA2 _ (unhide HF)).1 rfl) ?_); simp only [Act.put, List.setIfInBounds_toArray, List.set_cons_succ, List.set_cons_zero])))
            refine (unhide HNU _).mono ?_
            rintro e X1 ⟨rfl, hb⟩
            replace HF := hide ((unhide HF).on hb)
            clear hb
            go_wp2_with (first | go_skip | ((with_reducible show wpList _ _ _ _ _ _); first | ((refine rd (by rfl) (ex_lenG 22 28 Tryd.underlying22 rfl rfl) ?_); simp only [Act.put, List.setIfInBounds_toArray, List.set_cons_succ, List.set_cons_zero]) | ((refine rd (by rfl) (ex_indexG 22 8 i und22 idx22 rfl rfl rfl (unhide HLT)) ?_); simp only [Act.put, List.setIfInBounds_toArray, List.set_cons_succ, List.set_cons_zero]) | ((refine rd (by rfl) (ex_loadR (vs := s.p.cs) 25 5 row25 siz25 rfl rfl (unhide HA2 _ (unhide HF)).2 rfl) ?_); simp only [Act.put, List.setIfInBounds_toArray, List.set_cons_succ, List.set_cons_zero]) | ((refine rd (by rfl) (ex_loadR (vs := s.cs SA sc) 28 8 row28 siz28 rfl rfl (unhide HA2 _ (unhide HF)).1 rfl) ?_); simp only [Act.put, List.setIfInBounds_toArray, List.set_cons_succ, List.set_cons_zero])))
            refine (unhide HOB _).mono ?_
            rintro e X2 ⟨rfl, hb⟩
            replace HF := hide ((unhide HF).on hb)
            clear hb
            go_wp2_with (first | go_skip | ((with_reducible show wpList _ _ _ _ _ _); first | ((refine rd (by rfl) (ex_lenG 22 28 Tryd.underlying22 rfl rfl) ?_); simp only [Act.put, List.setIfInBounds_toArray, List.set_cons_succ, List.set_cons_zero]) | ((refine rd (by rfl) (ex_indexG 22 8 i und22 idx22 rfl rfl rfl (unhide HLT)) ?_); simp only [Act.put, List.setIfInBounds_toArray, List.set_cons_succ, List.set_cons_zero]) | ((refine rd (by rfl) (ex_loadR (vs := s.p.cs) 25 5 row25 siz25 rfl rfl (unhide HA2 _ (unhide HF)).2 rfl) ?_); simp only [Act.put, List.setIfInBounds_toArray, List.set_cons_succ, List.set_cons_zero]) | ((refine rd (by rfl) (ex_loadR (vs := s.cs SA sc) 28 8 row28 siz28 rfl rfl (unhide HA2 _ (unhide HF)).1 rfl) ?_); simp only [Act.put, List.setIfInBounds_toArray, List.set_cons_succ, List.set_cons_zero])))
            refine (ends16 (some ⟨b, off, none⟩) cap l i _ ((unhide HR).fr (unhide HF)) (by have := unhide HN; omega) (unhide HLT)).mono ?_
            rintro e X3 ⟨rfl, hb⟩
            replace HF := hide ((unhide HF).on hb)
            clear hb
            rw [ht]
            go_wp2
            go_ret
            exact ⟨(i : Int), rfl, .inr ⟨i, unhide HLT, rfl, unhide HBI, unhide HB⟩, (unhide HF).below⟩
          · cases rp
            · have HBI : Hid (badR l i = true) := hide (hbad.trans (by simp))
              clear hbad
              go_wp2_with (first | go_skip | ((with_reducible show wpList _ _ _ _ _ _); first | ((refine rd (by rfl) (ex_lenG 22 28 Tryd.underlying22 rfl rfl) ?_); simp only [Act.put, List.setIfInBounds_toArray, List.set_cons_succ, List.set_cons_zero]) | ((refine rd (by rfl) (ex_indexG 22 8 i und22 idx22 rfl rfl rfl (unhide HLT)) ?_); simp only [Act.put, List.setIfInBounds_toArray, List.set_cons_succ, List.set_cons_zero]) | ((refine rd (by rfl) (ex_loadR (vs := s.p.cs) 25 5 row25 siz25 rfl rfl (unhide HA2 _ (unhide HF)).2 rfl) ?_); simp only [Act.put, List.setIfInBounds_toArray, List.set_cons_succ, List.set_cons_zero]) | ((refine rd (by rfl) (ex_loadR (vs := s.cs SA sc) 28 8 row28 siz28 rfl rfl (unhide HA2 _ (unhide HF)).1 rfl) ?_); simp only [Act.put, List.setIfInBounds_toArray, List.set_cons_succ, List.set_cons_zero])))
              refine (unhide HNU _).mono ?_
              rintro e X1 ⟨rfl, hb⟩
              replace HF := hide ((unhide HF).on hb)
              clear hb
              go_wp2_with (first | go_skip | ((with_reducible show wpList _ _ _ _ _ _); first | ((refine rd (by rfl) (ex_lenG 22 28 Tryd.underlying22 rfl rfl) ?_); simp only [Act.put, List.setIfInBounds_toArray, List.set_cons_succ, List.set_cons_zero]) | ((refine rd (by rfl) (ex_indexG 22 8 i und22 idx22 rfl rfl rfl (unhide HLT)) ?_); simp only [Act.put, List.setIfInBounds_toArray, List.set_cons_succ, List.set_cons_zero]) | ((refine rd (by rfl) (ex_loadR (vs := s.p.cs) 25 5 row25 siz25 rfl rfl (unhide HA2 _ (unhide HF)).2 rfl) ?_); simp only [Act.put, List.setIfInBounds_toArray, List.set_cons_succ, List.set_cons_zero]) | ((refine rd (by rfl) (ex_loadR (vs := s.cs SA sc) 28 8 row28 siz28 rfl rfl (unhide HA2 _ (unhide HF)).1 rfl) ?_); simp only [Act.put, List.setIfInBounds_toArray, List.set_cons_succ, List.set_cons_zero])))
              refine (unhide HOB _).mono ?_
              rintro e X2 ⟨rfl, hb⟩
              replace HF := hide ((unhide HF).on hb)
              clear hb
              go_wp2_with (first | go_skip | ((with_reducible show wpList _ _ _ _ _ _); first | ((refine rd (by rfl) (ex_lenG 22 28 Tryd.underlying22 rfl rfl) ?_); simp only [Act.put, List.setIfInBounds_toArray, List.set_cons_succ, List.set_cons_zero]) | ((refine rd (by rfl) (ex_indexG 22 8 i und22 idx22 rfl rfl rfl (unhide HLT)) ?_); simp only [Act.put, List.setIfInBounds_toArray, List.set_cons_succ, List.set_cons_zero]) | ((refine rd (by rfl) (ex_loadR (vs := s.p.cs) 25 5 row25 siz25 rfl rfl (unhide HA2 _ (unhide HF)).2 rfl) ?_); simp only [Act.put, List.setIfInBounds_toArray, List.set_cons_succ, List.set_cons_zero]) | ((refine rd (by rfl) (ex_loadR (vs := s.cs SA sc) 28 8 row28 siz28 rfl rfl (unhide HA2 _ (unhide HF)).1 rfl) ?_); simp only [Act.put, List.setIfInBounds_toArray, List.set_cons_succ, List.set_cons_zero])))
              refine (ends16 (some ⟨b, off, none⟩) cap l i _ ((unhide HR).fr (unhide HF)) (by have := unhide HN; omega) (unhide HLT)).mono ?_
              rintro e X3 ⟨rfl, hb⟩
              replace HF := hide ((unhide HF).on hb)
              clear hb
              rw [ht]
              go_wp2_with (first | go_skip | ((with_reducible show wpList _ _ _ _ _ _); first | ((refine rd (by rfl) (ex_lenG 22 28 Tryd.underlying22 rfl rfl) ?_); simp only [Act.put, List.setIfInBounds_toArray, List.set_cons_succ, List.set_cons_zero]) | ((refine rd (by rfl) (ex_indexG 22 8 i und22 idx22 rfl rfl rfl (unhide HLT)) ?_); simp only [Act.put, List.setIfInBounds_toArray, List.set_cons_succ, List.set_cons_zero]) | ((refine rd (by rfl) (ex_loadR (vs := s.p.cs) 25 5 row25 siz25 rfl rfl (unhide HA2 _ (unhide HF)).2 rfl) ?_); simp only [Act.put, List.setIfInBounds_toArray, List.set_cons_succ, List.set_cons_zero]) | ((refine rd (by rfl) (ex_loadR (vs := s.cs SA sc) 28 8 row28 siz28 rfl rfl (unhide HA2 _ (unhide HF)).1 rfl) ?_); simp only [Act.put, List.setIfInBounds_toArray, List.set_cons_succ, List.set_cons_zero])))
              refine (unhide HPP _ (unhide HF)).mono ?_
              rintro e X4 ⟨rfl, hb⟩
              replace HF := hide ((unhide HF).on hb)
              clear hb
              go_wp2
              go_ret
              exact ⟨(i : Int), rfl, .inr ⟨i, unhide HLT, rfl, unhide HBI, unhide HB⟩, (unhide HF).below⟩
            · have HB2 : Hid (∀ j, j < i + 1 → badR l j = false) := hide (fun j hj => by
                rcases Nat.lt_or_ge j i with h | h
                · exact unhide HB j h
                · obtain rfl : j = i := by omega
                  exact hbad.trans (by rfl))
              clear hbad HB
              go_wp2_with (first | go_skip | ((with_reducible show wpList _ _ _ _ _ _); first | ((refine rd (by rfl) (ex_lenG 22 28 Tryd.underlying22 rfl rfl) ?_); simp only [Act.put, List.setIfInBounds_toArray, List.set_cons_succ, List.set_cons_zero]) | ((refine rd (by rfl) (ex_indexG 22 8 i und22 idx22 rfl rfl rfl (unhide HLT)) ?_); simp only [Act.put, List.setIfInBounds_toArray, List.set_cons_succ, List.set_cons_zero]) | ((refine rd (by rfl) (ex_loadR (vs := s.p.cs) 25 5 row25 siz25 rfl rfl (unhide HA2 _ (unhide HF)).2 rfl) ?_); simp only [Act.put, List.setIfInBounds_toArray, List.set_cons_succ, List.set_cons_zero]) | ((refine rd (by rfl) (ex_loadR (vs := s.cs SA sc) 28 8 row28 siz28 rfl rfl (unhide HA2 _ (unhide HF)).1 rfl) ?_); simp only [Act.put, List.setIfInBounds_toArray, List.set_cons_succ, List.set_cons_zero])))
              refine (unhide HNU _).mono ?_
              rintro e X1 ⟨rfl, hb⟩
              replace HF := hide ((unhide HF).on hb)
              clear hb
              go_wp2_with (first | go_skip | ((with_reducible show wpList _ _ _ _ _ _); first | ((refine rd (by rfl) (ex_lenG 22 28 Tryd.underlying22 rfl rfl) ?_); simp only [Act.put, List.setIfInBounds_toArray, List.set_cons_succ, List.set_cons_zero]) | ((refine rd (by rfl) (ex_indexG 22 8 i und22 idx22 rfl rfl rfl (unhide HLT)) ?_); simp only [Act.put, List.setIfInBounds_toArray, List.set_cons_succ, List.set_cons_zero]) | ((refine rd (by rfl) (ex_loadR (vs := s.p.cs) 25 5 row25 siz25 rfl rfl (unhide HA2 _ (unhide HF)).2 rfl) ?_); simp only [Act.put, List.setIfInBounds_toArray, List.set_cons_succ, List.set_cons_zero]) | ((refine rd (by rfl) (ex_loadR (vs := s.cs SA sc) 28 8 row28 siz28 rfl rfl (unhide HA2 _ (unhide HF)).1 rfl) ?_); simp only [Act.put, List.setIfInBounds_toArray, List.set_cons_succ, List.set_cons_zero])))
              refine (unhide HOB _).mono ?_
              rintro e X2 ⟨rfl, hb⟩
              replace HF := hide ((unhide HF).on hb)
              clear hb
              go_wp2_with (first | go_skip | ((with_reducible show wpList _ _ _ _ _ _); first | ((refine rd (by rfl) (ex_lenG 22 28 Tryd.underlying22 rfl rfl) ?_); simp only [Act.put, List.setIfInBounds_toArray, List.set_cons_succ, List.set_cons_zero]) | ((refine rd (by rfl) (ex_indexG 22 8 i und22 idx22 rfl rfl rfl (unhide HLT)) ?_); simp only [Act.put, List.setIfInBounds_toArray, List.set_cons_succ, List.set_cons_zero]) | ((refine rd (by rfl) (ex_loadR (vs := s.p.cs) 25 5 row25 siz25 rfl rfl (unhide HA2 _ (unhide HF)).2 rfl) ?_); simp only [Act.put, List.setIfInBounds_toArray, List.set_cons_succ, List.set_cons_zero]) | ((refine rd (by rfl) (ex_loadR (vs := s.cs SA sc) 28 8 row28 siz28 rfl rfl (unhide HA2 _ (unhide HF)).1 rfl) ?_); simp only [Act.put, List.setIfInBounds_toArray, List.set_cons_succ, List.set_cons_zero])))
              refine (ends16 (some ⟨b, off, none⟩) cap l i _ ((unhide HR).fr (unhide HF)) (by have := unhide HN; omega) (unhide HLT)).mono ?_
              rintro e X3 ⟨rfl, hb⟩
              replace HF := hide ((unhide HF).on hb)
              clear hb
              rw [ht]
              go_wp2_with (first | go_skip | ((with_reducible show wpList _ _ _ _ _ _); first | ((refine rd (by rfl) (ex_lenG 22 28 Tryd.underlying22 rfl rfl) ?_); simp only [Act.put, List.setIfInBounds_toArray, List.set_cons_succ, List.set_cons_zero]) | ((refine rd (by rfl) (ex_indexG 22 8 i und22 idx22 rfl rfl rfl (unhide HLT)) ?_); simp only [Act.put, List.setIfInBounds_toArray, List.set_cons_succ, List.set_cons_zero]) | ((refine rd (by rfl) (ex_loadR (vs := s.p.cs) 25 5 row25 siz25 rfl rfl (unhide HA2 _ (unhide HF)).2 rfl) ?_); simp only [Act.put, List.setIfInBounds_toArray, List.set_cons_succ, List.set_cons_zero]) | ((refine rd (by rfl) (ex_loadR (vs := s.cs SA sc) 28 8 row28 siz28 rfl rfl (unhide HA2 _ (unhide HF)).1 rfl) ?_); simp only [Act.put, List.setIfInBounds_toArray, List.set_cons_succ, List.set_cons_zero])))
              refine (unhide HPP _ (unhide HF)).mono ?_
              rintro e X4 ⟨rfl, hb⟩
              replace HF := hide ((unhide HF).on hb)
              clear hb
              go_wp2
              go_roundg (l.length - (i + 1))
              case measure => have := unhide HLT; omega
              case rel => exact ⟨i + 1, by go_num, by have := unhide HLT; omega, by omega, HB2, HF⟩
      · cases t
        · have HBI : Hid (badR l i = true) := hide (hbad.trans (by simp))
          clear hbad
          go_wp2_with (first | go_skip | ((with_reducible show wpList _ _ _ _ _ _); first | ((refine rd (by rfl) (ex_lenG 22 28 Tryd.underlying22 rfl rfl) ?_); simp only [Act.put, List.setIfInBounds_toArray, List.set_cons_succ, List.set_cons_zero]) | ((refine rd (by rfl) (ex_indexG 22 8 i und22 idx22 rfl rfl rfl (unhide HLT)) ?_); simp only [Act.put, List.setIfInBounds_toArray, List.set_cons_succ, List.set_cons_zero]) | ((refine rd (by rfl) (ex_loadR (vs := s.p.cs) 25 5 row25 siz25 rfl rfl (unhide HA2 _ (unhide HF)).2 rfl) ?_); simp only [Act.put, List.setIfInBounds_toArray, List.set_cons_succ, List.set_cons_zero]) | ((refine rd (by rfl) (ex_loadR (vs := s.cs SA sc) 28 8 row28 siz28 rfl rfl (unhide HA2 _ (unhide HF)).1 rfl) ?_); simp only [Act.put, List.setIfInBounds_toArray, List.set_cons_succ, List.set_cons_zero])))
          refine (unhide HNU _).mono ?_
          rintro e X1 ⟨rfl, hb⟩
          replace HF := hide ((unhide HF).on hb)
          clear hb
          go_wp2_with (first | go_skip | ((with_reducible show wpList _ _ _ _ _ _); first | ((refine rd (by rfl) (ex_lenG 22 28 Tryd.underlying22 rfl rfl) ?_); simp only [Act.put, List.setIfInBounds_toArray, List.set_cons_succ, List.set_cons_zero]) | ((refine rd (by rfl) (ex_indexG 22 8 i und22 idx22 rfl rfl rfl (unhide HLT)) ?_); simp only [Act.put, List.setIfInBounds_toArray, List.set_cons_succ, List.set_cons_zero]) | ((refine rd (by rfl) (ex_loadR (vs := s.p.cs) 25 5 row25 siz25 rfl rfl (unhide HA2 _ (unhide HF)).2 rfl) ?_); simp only [Act.put, List.setIfInBounds_toArray, List.set_cons_succ, List.set_cons_zero]) | ((refine rd (by rfl) (ex_loadR (vs := s.cs SA sc) 28 8 row28 siz28 rfl rfl (unhide HA2 _ (unhide HF)).1 rfl) ?_); simp only [Act.put, List.setIfInBounds_toArray, List.set_cons_succ, List.set_cons_zero])))
          refine (ends16 (some ⟨b, off, none⟩) cap l i _ ((unhide HR).fr (unhide HF)) (by have := unhide HN; omega) (unhide HLT)).mono ?_
          rintro e X3 ⟨rfl, hb⟩
          replace HF := hide ((unhide HF).on hb)
          clear hb
          rw [ht]
          go_wp2
          go_ret
          exact ⟨(i : Int), rfl, .inr ⟨i, unhide HLT, rfl, unhide HBI, unhide HB⟩, (unhide HF).below⟩
        · cases rp
          · have HBI : Hid (badR l i = true) := hide (hbad.trans (by simp))
            clear hbad
            go_wp2_with (first | go_skip | ((with_reducible show wpList _ _ _ _ _ _); first | ((refine rd (by rfl) (ex_lenG 22 28 Tryd.underlying22 rfl rfl) ?_); simp only [Act.put, List.setIfInBounds_toArray, List.set_cons_succ, List.set_cons_zero]) | ((refine rd (by rfl) (ex_indexG 22 8 i und22 idx22 rfl rfl rfl (unhide HLT)) ?_); simp only [Act.put, List.setIfInBounds_toArray, List.set_cons_succ, List.set_cons_zero]) | ((refine rd (by rfl) (ex_loadR (vs := s.p.cs) 25 5 row25 siz25 rfl rfl (unhide HA2 _ (unhide HF)).2 rfl) ?_); simp only [Act.put, List.setIfInBounds_toArray, List.set_cons_succ, List.set_cons_zero]) | ((refine rd (by rfl) (ex_loadR (vs := s.cs SA sc) 28 8 row28 siz28 rfl rfl (unhide HA2 _ (unhide HF)).1 rfl) ?_); simp only [Act.put, List.setIfInBounds_toArray, List.set_cons_succ, List.set_cons_zero])))
            refine (unhide HNU _).mono ?_
            rintro e X1 ⟨rfl, hb⟩
            replace HF := hide ((unhide HF).on hb)
            clear hb
            go_wp2_with (first | go_skip | ((with_reducible show wpList _ _ _ _ _ _); first | ((refine rd (by rfl) (ex_lenG 22 28 Tryd.underlying22 rfl rfl) ?_); simp only [Act.put, List.setIfInBounds_toArray, List.set_cons_succ, List.set_cons_zero]) | ((refine rd (by rfl) (ex_indexG 22 8 i und22 idx22 rfl rfl rfl (unhide HLT)) ?_); simp only [Act.put, List.setIfInBounds_toArray, List.set_cons_succ, List.set_cons_zero]) | ((refine rd (by rfl) (ex_loadR (vs := s.p.cs) 25 5 row25 siz25 rfl rfl (unhide HA2 _ (unhide HF)).2 rfl) ?_); simp only [Act.put, List.setIfInBounds_toArray, List.set_cons_succ, List.set_cons_zero]) | ((refine rd (by rfl) (ex_loadR (vs := s.cs SA sc) 28 8 row28 siz28 rfl rfl (unhide HA2 _ (unhide HF)).1 rfl) ?_); simp only [Act.put, List.setIfInBounds_toArray, List.set_cons_succ, List.set_cons_zero])))
            refine (ends16 (some ⟨b, off, none⟩) cap l i _ ((unhide HR).fr (unhide HF)) (by have := unhide HN; omega) (unhide HLT)).mono ?_
            rintro e X3 ⟨rfl, hb⟩
            replace HF := hide ((unhide HF).on hb)
            clear hb
            rw [ht]
            go_wp2_with (first | go_skip | ((with_reducible show wpList _ _ _ _ _ _); first | ((refine rd (by rfl) (ex_lenG 22 28 Tryd.underlying22 rfl rfl) ?_); simp only [Act.put, List.setIfInBounds_toArray, List.set_cons_succ, List.set_cons_zero]) | ((refine rd (by rfl) (ex_indexG 22 8 i und22 idx22 rfl rfl rfl (unhide HLT)) ?_); simp only [Act.put, List.setIfInBounds_toArray, List.set_cons_succ, List.set_cons_zero]) | ((refine rd (by rfl) (ex_loadR (vs := s.p.cs) 25 5 row25 siz25 rfl rfl (unhide HA2 _ (unhide HF)).2 rfl) ?_); simp only [Act.put, List.setIfInBounds_toArray, List.set_cons_succ, List.set_cons_zero]) | ((refine rd (by rfl) (ex_loadR (vs := s.cs SA sc) 28 8 row28 siz28 rfl rfl (unhide HA2 _ (unhide HF)).1 rfl) ?_); simp only [Act.put, List.setIfInBounds_toArray, List.set_cons_succ, List.set_cons_zero])))
            refine (unhide HPP _ (unhide HF)).mono ?_
            rintro e X4 ⟨rfl, hb⟩
            replace HF := hide ((unhide HF).on hb)
            clear hb
            go_wp2
            go_ret
            exact ⟨(i : Int), rfl, .inr ⟨i, unhide HLT, rfl, unhide HBI, unhide HB⟩, (unhide HF).below⟩
          · have HB2 : Hid (∀ j, j < i + 1 → badR l j = false) := hide (fun j hj => by
              rcases Nat.lt_or_ge j i with h | h
              · exact unhide HB j h
              · obtain rfl : j = i := by omega
                exact hbad.trans (by rfl))
            clear hbad HB
            go_wp2_with (first | go_skip | ((with_reducible show wpList _ _ _ _ _ _); first | ((refine rd (by rfl) (ex_lenG 22 28 Tryd.underlying22 rfl rfl) ?_); simp only [Act.put, List.setIfInBounds_toArray, List.set_cons_succ, List.set_cons_zero]) | ((refine rd (by rfl) (ex_indexG 22 8 i und22 idx22 rfl rfl rfl (unhide HLT)) ?_); simp only [Act.put, List.setIfInBounds_toArray, List.set_cons_succ, List.set_cons_zero]) | ((refine rd (by rfl) (ex_loadR (vs := s.p.cs) 25 5 row25 siz25 rfl rfl (unhide HA2 _ (unhide HF)).2 rfl) ?_); simp only [Act.put, List.setIfInBounds_toArray, List.set_cons_succ, List.set_cons_zero]) | ((refine rd (by rfl) (ex_loadR (vs := s.cs SA sc) 28 8 row28 siz28 rfl rfl (unhide HA2 _ (unhide HF)).1 rfl) ?_); simp only [Act.put, List.setIfInBounds_toArray, List.set_cons_succ, List.set_cons_zero])))
            refine (unhide HNU _).mono ?_
            rintro e X1 ⟨rfl, hb⟩
            replace HF := hide ((unhide HF).on hb)
            clear hb
            go_wp2_with (first | go_skip | ((with_reducible show wpList _ _ _ _ _ _); first | ((refine rd (by rfl) (ex_lenG 22 28 Tryd.underlying22 rfl rfl) ?_); simp only [Act.put, List.setIfInBounds_toArray, List.set_cons_succ, List.set_cons_zero]) | ((refine rd (by rfl) (ex_indexG 22 8 i und22 idx22 rfl rfl rfl (unhide HLT)) ?_); simp only [Act.put, List.setIfInBounds_toArray, List.set_cons_succ, List.set_cons_zero]) | ((refine rd (by rfl) (ex_loadR (vs := s.p.cs) 25 5 row25 siz25 rfl rfl (unhide HA2 _ (unhide HF)).2 rfl) ?_); simp only [Act.put, List.setIfInBounds_toArray, List.set_cons_succ, List.set_cons_zero]) | ((refine rd (by rfl) (ex_loadR (vs := s.cs SA sc) 28 8 row28 siz28 rfl rfl (unhide HA2 _ (unhide HF)).1 rfl) ?_); simp only [Act.put, List.setIfInBounds_toArray, List.set_cons_succ, List.set_cons_zero])))
            refine (ends16 (some ⟨b, off, none⟩) cap l i _ ((unhide HR).fr (unhide HF)) (by have := unhide HN; omega) (unhide HLT)).mono ?_
            rintro e X3 ⟨rfl, hb⟩
            replace HF := hide ((unhide HF).on hb)
            clear hb
            rw [ht]
            go_wp2_with (first | go_skip | ((with_reducible show wpList _ _ _ _ _ _); first | ((refine rd (by rfl) (ex_lenG 22 28 Tryd.underlying22 rfl rfl) ?_); simp only [Act.put, List.setIfInBounds_toArray, List.set_cons_succ, List.set_cons_zero]) | ((refine rd (by rfl) (ex_indexG 22 8 i und22 idx22 rfl rfl rfl (unhide HLT)) ?_); simp only [Act.put, List.setIfInBounds_toArray, List.set_cons_succ, List.set_cons_zero]) | ((refine rd (by rfl) (ex_loadR (vs := s.p.cs) 25 5 row25 siz25 rfl rfl (unhide HA2 _ (unhide HF)).2 rfl) ?_); simp only [Act.put, List.setIfInBounds_toArray, List.set_cons_succ, List.set_cons_zero]) | ((refine rd (by rfl) (ex_loadR (vs := s.cs SA sc) 28 8 row28 siz28 rfl rfl (unhide HA2 _ (unhide HF)).1 rfl) ?_); simp only [Act.put, List.setIfInBounds_toArray, List.set_cons_succ, List.set_cons_zero])))
            refine (unhide HPP _ (unhide HF)).mono ?_
            rintro e X4 ⟨rfl, hb⟩
            replace HF := hide ((unhide HF).on hb)
            clear hb
            go_wp2
            go_roundg (l.length - (i + 1))
            case measure => have := unhide HLT; omega
            case rel => exact ⟨i + 1, by go_num, by have := unhide HLT; omega, by omega, HB2, HF⟩
    · obtain rfl : i = l.length := by omega
      clear hlt hil
      go_wp2_with (first | go_skip | ((with_reducible show wpList _ _ _ _ _ _); first | ((refine rd (by rfl) (ex_lenG 22 28 Tryd.underlying22 rfl rfl) ?_); simp only [Act.put, List.setIfInBounds_toArray, List.set_cons_succ, List.set_cons_zero])))
      go_ret
      exact ⟨-1, rfl, .inl ⟨rfl, unhide HB⟩, (unhide HF).below⟩
end Go.Proofs.YtmpdhmdmfmgamaaDoor

/-! Or -/
namespace Go.Proofs.YtmpdhmdmfmgamaaDoor
open Go Go.Proofs Go.Maps Go.RowKit FM
set_option linter.unusedSimpArgs false
set_option linter.unusedVariables false
set_option maxHeartbeats 1000000
theorem flat_len {α : Type} (f : α → List Value) (k : Nat) (hk : ∀ a, (f a).length = k) : ∀ l : List α, (l.flatMap f).length = l.length * k
  | [] => by simp
  | d :: l => by
    rw [List.flatMap_cons, List.length_append, hk, flat_len f k hk l, List.length_cons, Nat.add_mul, Nat.one_mul, Nat.add_comm]
theorem flat_get {α : Type} (f : α → List Value) (k : Nat) (hk : ∀ a, (f a).length = k) : ∀ (l : List α) (j t : Nat) (hj : j < l.length), t < k → (l.flatMap f)[j * k + t]? = (f l[j])[t]?
  | [], j, t, hj, _ => by simp at hj
  | d :: l, 0, t, hj, ht => by
    rw [List.flatMap_cons, Nat.zero_mul, Nat.zero_add, List.getElem?_append_left (by rw [hk]; exact ht)]
    simp
  | d :: l, j + 1, t, hj, ht => by
    have e : (j + 1) * k + t - k = j * k + t := by rw [Nat.add_mul]; omega
    rw [List.flatMap_cons, List.getElem?_append_right (by rw [hk, Nat.add_mul]; omega), hk, e, flat_get f k hk l j t (by simpa using hj) ht]
    simp
theorem own_row {α : Type} {f : α → List Value} {k : Nat} (hk : ∀ a, (f a).length = k) {W : World} {base T n : Nat} {v : Value} {l : List α} (h : W.ownsRow base T k v n (l.flatMap f)) (hn : l.length = n) (j : Nat) (hj : j < l.length) : ∃ g c, v = .slice (some ⟨g, 0, none⟩) n c ∧ base ≤ g ∧ g < W.heap.size ∧ W.rangeAt g (0 + j * k) (f l[j]) := by
  rcases h.2 with ⟨h1, h0⟩ | ⟨g, cap, cur, h1, h2, h3, h4, h5, h6, h7⟩
  · omega
  · refine ⟨g, cap, h1, h2, (Array.getElem?_eq_some_iff.1 h3).1, fun t u hu => ?_⟩
    have ht : t < k := by
      have := (List.getElem?_eq_some_iff.1 hu).1
      rwa [hk] at this
    have hlt : j * k + t < n * k := by
      have : (j + 1) * k ≤ n * k := Nat.mul_le_mul_right k (by omega)
      rw [Nat.add_mul] at this
      omega
    have h8 : (cur.toList.take (n * k))[j * k + t]? = (l.flatMap f)[j * k + t]? := by rw [h7]
    rw [List.getElem?_take, if_pos hlt, flat_get f k hk l j t hj ht, hu] at h8
    have e2 : cur[j * k + t]? = some u := by simpa using h8
    rw [Nat.zero_add]
    simp [World.cell?, h3, e2]
theorem own_blk {w w' : World} {base e s n : Nat} {v : Value} {xs : List Value} (h : w.ownsRow base e s v n xs) (he : ∀ g, v.ownBlock = some g → w'.heap[g]? = w.heap[g]?) : w'.ownsRow base e s v n xs := by
  obtain ⟨h1, h2⟩ := h
  refine ⟨h1, ?_⟩
  rcases h2 with h2 | ⟨g, cap, cur, rfl, h3, h4, h5⟩
  · exact .inl h2
  · exact .inr ⟨g, cap, cur, rfl, h3, (he g rfl).trans h4, h5⟩
theorem own_fr {w w' : World} {base e s n : Nat} {v : Value} {xs : List Value} (h : w.ownsRow base e s v n xs) (hf : Fr w w' []) : w'.ownsRow base e s v n xs := own_blk h (fun g hg => hf.block g (World.ownsRow.lt h g hg).2 (by simp))
theorem ReadsP.far {X Y : World} {A : Option Addr} {l : List PR} {E : List Nat} (h : ReadsP X A l) (hf : Fr X Y E) (hE : ∀ b off, A = some ⟨b, off, none⟩ → b ∉ E) : ReadsP Y A l := fun j p hp => by
  obtain ⟨h1, b, off, h2, h3, h4⟩ := h j p hp
  refine ⟨h1, b, off, h2, Nat.lt_of_lt_of_le h3 hf.size, fun t v hv => ?_⟩
  have e := h4 t v hv
  have hb := hf.block b h3 (hE b off h2)
  unfold World.cell? at e ⊢
  dsimp only at e ⊢
  rw [hb]
  exact e
/-- A slice whose elements are these shapes; a nil row of properties has no room. -/
def ReadsT (w : World) (A : Option Addr) (l : List SH) : Prop := ∀ j s, l[j]? = some s → s.p.x < 2 ^ 64 ∧ s.ps.length ≤ 733007751850 ∧ ∃ b off SA cap, A = some ⟨b, off, none⟩ ∧ b < w.heap.size ∧ ReadsP w SA s.ps ∧ w.rangeAt b (off + j * 8) (s.cs SA cap) ∧ (SA = none → cap = 0)
theorem ReadsT.s {w : World} {A : Option Addr} {l : List SH} (h : ReadsT w A l) : ReadsS w A l := fun j s hs => by
  obtain ⟨h1, h2, b, off, SA, cap, h3, h4, h5, h6, -⟩ := h j s hs
  exact ⟨h1, h2, b, off, SA, cap, h3, h4, h5, h6⟩
def flatP (l : List PR) : List Value := l.flatMap PR.cs
theorem flatP_one (l : List PR) : ∀ u ∈ flatP l, u.oneCell' = true := by
  intro u hu
  obtain ⟨p, -, hp⟩ := List.mem_flatMap.1 hu
  exact pcs_one p u hp
theorem own_readsP {W : World} {base : Nat} {A : Option Addr} {c : Nat} {l : List PR} (hok : ∀ p ∈ l, OkP p) (h : W.ownsRow base 46 20 (.slice A l.length c) l.length (flatP l)) : ReadsP W A l := fun j p hp => by
  have hj := (List.getElem?_eq_some_iff.1 hp).1
  obtain ⟨g, c', h1, h2, h3, h4⟩ := own_row pcs_length h rfl j hj
  cases h1
  have e : l[j] = p := (List.getElem?_eq_some_iff.1 hp).2
  rw [e] at h4
  exact ⟨hok p (List.mem_of_getElem? hp), g, 0, rfl, h3, h4⟩
theorem inf46 : (Tryd.prog.info? 46).map (fun i => (i.zero, i.size, i.bytes)) = some (some zeroP.agg, 20, 192) := by kernel_rfl
theorem inf28 : (Tryd.prog.info? 28).map (fun i => (i.zero, i.size, i.bytes)) = some (some (zeroS.agg none 0), 8, 88) := by kernel_rfl
theorem none26 (w : World) : (Instr.buildSlice 26 0 #[]).run Tryd.prog w = .ok (.slice (some ⟨w.heap.size, 0, none⟩) 0 0) (w.alloc (Obj.cells #[] 46)) := by kernel_rfl
section
variable {ops : Array Oper} {rest : List Oper} {Q : Exit → Act → World → Prop} {a : Act} {w : World} {o : Oper}
theorem noneG (t e : TypeId) (size : Nat) (base : Nat) (hb : base ≤ w.heap.size) (hw : Region.wanted o (yielded ops a.tmps) = true) (ho : o.op = .buildSlice t 0 #[]) (hr : ∀ w, (Instr.buildSlice t 0 #[]).run Tryd.prog w = .ok (.slice (some ⟨w.heap.size, 0, none⟩) 0 0) (w.alloc (Obj.cells #[] e)))
    (h : ∀ X B, B = w.heap.size → X.ownsRow base e size (.slice (some ⟨B, 0, none⟩) 0 0) 0 [] → Below w.heap.size w X → wpList Tryd.prog ops Q rest (a.put o.dst (.slice (some ⟨B, 0, none⟩) 0 0)) X) : wpList Tryd.prog ops Q (o :: rest) a w := by
  refine BigFrame.wpList_want hw fun K hK => ?_
  have hP := hK _ _ (h (w.alloc (Obj.cells #[] e)) w.heap.size rfl ⟨by simp, .inr ⟨w.heap.size, 0, #[], rfl, hb, (MapKept.heap_alloc w _).1, Nat.le_refl _, Nat.zero_le _, by simp, by simp⟩⟩ ((Below.refl _ _).alloc (Nat.le_refl _) _))
  have he : (execOp a.eval o).run Tryd.prog w = .ok (.value (.slice (some ⟨w.heap.size, 0, none⟩) 0 0)) (w.alloc (Obj.cells #[] e)) := by
    unfold execOp
    simp only [ho, List.map_toArray, List.map_nil]
    simp [hr w]
  unfold Oper.wp
  rw [he]
  exact hP
/-- A row of properties, copied. -/
theorem app_P {c B base : Nat} {A : Option Addr} {l : List PR} {s x : Operand} (hw : Region.wanted o (yielded ops a.tmps) = true) (ho : o.op = .call { callee := .builtin .append, args := #[s, x], argTypes := #[26, 26] }) (hs : a.eval s = .slice (some ⟨B, 0, none⟩) 0 0) (hx : a.eval x = .slice A l.length c)
    (hown : w.ownsRow base 46 20 (.slice (some ⟨B, 0, none⟩) 0 0) 0 []) (hR : ReadsP w A l) (hc : A = none → c = 0) (hn : l.length ≤ 733007751850) (hbase : base ≤ w.heap.size) (av : Nat) (hav : B ≠ av) (hal : av < w.heap.size)
    (h : ∀ A' c' X, X.ownsRow base 46 20 (.slice A' l.length c') l.length (flatP l) → Fr w X [B] → (∀ g, (Value.slice A' l.length c').ownBlock = some g → g ≠ av) → wpList Tryd.prog ops Q rest (a.put o.dst (.slice A' l.length c')) X) : wpList Tryd.prog ops Q (o :: rest) a w := by
  obtain ⟨i0, hi', hz0, hz1, hz2⟩ := info_parts inf46
  cases A with
  | none =>
    have hl : l = [] := by
      cases l with
      | nil => rfl
      | cons p r =>
        obtain ⟨_, b, off, h1, _⟩ := hR 0 p rfl
        cases h1
    subst hl
    have hc0 := hc rfl
    subst hc0
    have hrun := run_append_owned_none (P := Tryd.prog) (w := w) base 26 o.type 46 i0 20 Tryd.underlying26 hi' (.slice (some ⟨B, 0, none⟩) 0 0) 0 [] hown
    refine BigFrame.wpList_want hw fun K hK => ?_
    have hP := hK _ _ (h _ _ w hown (Fr.refl _ _) (fun g hg => by obtain rfl : B = g := Option.some.inj hg; exact hav))
    unfold Oper.wp
    have hx' : a.eval x = .slice none 0 0 := hx
    simp [execOp, ho, resolve, invoke, builtin, hs, hx', hrun, Result.andThen]
    exact hP
  | some ad =>
    have hnews : ∀ j u, (flatP l)[j]? = some u → w.cell? (ad.add j) = some u := fun j u hu => by
      have hj := (List.getElem?_eq_some_iff.1 hu).1
      unfold flatP at hj hu
      rw [flat_len PR.cs 20 pcs_length] at hj
      have hq : j / 20 < l.length := by omega
      obtain ⟨_, b, off, h1, h2, h3⟩ := hR (j / 20) l[j / 20] (List.getElem?_eq_getElem hq)
      cases h1
      have e : j = j / 20 * 20 + j % 20 := by omega
      have h4 : (l.flatMap PR.cs)[j / 20 * 20 + j % 20]? = (l[j / 20]).cs[j % 20]? := flat_get PR.cs 20 pcs_length l (j / 20) (j % 20) hq (by omega)
      rw [← e, hu] at h4
      have h5 := h3 (j % 20) u h4.symm
      rw [Addr.add_mid]
      rwa [show off + j / 20 * 20 + j % 20 = off + j by omega] at h5
    obtain ⟨v', X, hrun, h2, h3, h4⟩ := append_fresh w base 26 o.type 46 i0 _ 20 192 Tryd.underlying26 hi' hz0 hz1 hz2 rfl (by omega) (.slice (some ⟨B, 0, none⟩) 0 0) 0 [] hown ad l.length c (flatP l) (flat_len PR.cs 20 pcs_length l) hnews (flatP_one l) (by unfold maxLen; omega) (by omega) hbase
    rw [Nat.zero_add, List.nil_append] at h2
    obtain ⟨A', c', hf⟩ := own_form h2
    subst hf
    refine BigFrame.wpList_want hw fun K hK => ?_
    have hP := hK _ _ (h A' c' X h2 (Fr.grown h3) (fun g hg => by
      rcases h4 with h5 | h5
      · rw [h5] at hg
        obtain rfl : B = g := Option.some.inj hg
        exact hav
      · rw [h5] at hg
        have : w.heap.size = g := Option.some.inj hg
        omega))
    unfold Oper.wp
    simp [execOp, ho, resolve, invoke, builtin, hs, hx, hrun, Result.andThen]
    exact hP
end
/-- A shape of the copy, and where its properties lie. -/
structure CE where
  s : SH
  A : Option Addr
  cap : Nat
def CE.cs (e : CE) : List Value := e.s.cs e.A e.cap
theorem ce_length (e : CE) : e.cs.length = 8 := rfl
/-- So much of the copy stands. -/
structure CRow (w wr : World) (l : List SH) (cv : Value) (cl : List CE) : Prop where
  own : wr.ownsRow w.heap.size 28 8 cv cl.length (cl.flatMap CE.cs)
  all : ∀ (j : Nat) (e : CE), cl[j]? = some e → l[j]? = some e.s ∧ ReadsP wr e.A e.s.ps
  off : ∀ e : CE, e ∈ cl → ∀ b o, e.A = some ⟨b, o, none⟩ → b < wr.heap.size ∧ cv.ownBlock ≠ some b
  fr : Fr w wr []
theorem CRow.nil (w : World) (l : List SH) : CRow w w l (.slice none 0 0) [] := ⟨⟨rfl, .inl ⟨rfl, rfl⟩⟩, fun j e he => by simp at he, fun e he => by simp at he, Fr.refl _ _⟩
theorem CRow.on {w wr X : World} {l : List SH} {cv : Value} {cl : List CE} (h : CRow w wr l cv cl) (hf : Fr wr X []) : CRow w X l cv cl :=
  ⟨own_fr h.own hf, fun j e he => ⟨(h.all j e he).1, (h.all j e he).2.fr hf⟩, fun e he b o hb => ⟨Nat.lt_of_lt_of_le (h.off e he b o hb).1 hf.size, (h.off e he b o hb).2⟩, h.fr.trans hf (by simp)⟩
theorem CRow.snoc {w X Y : World} {l : List SH} {cv cv' : Value} {cl : List CE} {e : CE} (h : CRow w X l cv cl) (ho : Y.ownsRow w.heap.size 28 8 cv' (cl.length + 1) (cl.flatMap CE.cs ++ e.cs)) (hg : X.grownBy Y cv.ownBlock) (hfr : Fresh X cv cv') (hl : l[cl.length]? = some e.s) (hp : ReadsP X e.A e.s.ps) (he : ∀ b o, e.A = some ⟨b, o, none⟩ → b < X.heap.size ∧ cv.ownBlock ≠ some b) : CRow w Y l cv' (cl ++ [e]) := by
  have hF : Fr X Y cv.ownBlock.toList := Fr.grown hg
  have hnew : ∀ b, b < X.heap.size → cv.ownBlock ≠ some b → cv'.ownBlock ≠ some b := fun b hb hc h2 => by
    rcases hfr with h3 | h3
    · exact hc (h3 ▸ h2)
    · rw [h3] at h2
      have : X.heap.size = b := Option.some.inj h2
      omega
  have hE : ∀ b, cv.ownBlock ≠ some b → b ∉ cv.ownBlock.toList := fun b hc hm => hc (by simpa using hm)
  refine ⟨by rw [List.length_append, List.flatMap_append]; simpa using ho, fun j q hq => ?_, fun q hq b o hb => ?_, h.fr.trans hF (fun b hb => .inr ?_)⟩
  · rcases Nat.lt_or_ge j cl.length with h1 | h1
    · rw [List.getElem?_append_left h1] at hq
      have h2 := h.all j q hq
      exact ⟨h2.1, h2.2.far hF (fun b o hb => hE b (h.off q (List.mem_of_getElem? hq) b o hb).2)⟩
    · rw [List.getElem?_append_right h1] at hq
      have h3 := (List.getElem?_eq_some_iff.1 hq).1
      have h4 : j = cl.length := by simp at h3; omega
      subst h4
      rw [Nat.sub_self] at hq
      obtain rfl : e = q := by simpa using hq
      exact ⟨hl, hp.far hF (fun b o hb => hE b (he b o hb).2)⟩
  · rcases List.mem_append.1 hq with h1 | h1
    · have h2 := h.off q h1 b o hb
      exact ⟨Nat.lt_of_lt_of_le h2.1 hF.size, hnew b h2.1 h2.2⟩
    · obtain rfl : q = e := by simpa using h1
      have h2 := he b o hb
      exact ⟨Nat.lt_of_lt_of_le h2.1 hF.size, hnew b h2.1 h2.2⟩
  · have hb2 : cv.ownBlock = some b := by simpa using hb
    exact (World.ownsRow.lt h.own b hb2).1
theorem CRow.reads {w wr : World} {l : List SH} {cv : Value} {cl : List CE} (h : CRow w wr l cv cl) (hl : cl.length = l.length) (hx : ∀ (j : Nat) (s : SH), l[j]? = some s → s.p.x < 2 ^ 64 ∧ s.ps.length ≤ 733007751850) : ∃ A c, cv = .slice A l.length c ∧ ReadsS wr A l := by
  obtain ⟨A, c, hf⟩ := own_form h.own
  refine ⟨A, c, by rw [hf, hl], fun j s hs => ?_⟩
  have hj : j < cl.length := by
    rw [hl]
    exact (List.getElem?_eq_some_iff.1 hs).1
  have he : cl[j]? = some cl[j] := List.getElem?_eq_getElem hj
  obtain ⟨h1, h2⟩ := h.all j _ he
  have e1 : cl[j].s = s := Option.some.inj (h1.symm.trans hs)
  obtain ⟨g, c2, h3, h4, h5, h6⟩ := own_row ce_length h.own rfl j hj
  rw [hf] at h3
  cases h3
  have h7 : wr.rangeAt g (0 + j * 8) (s.cs cl[j].A cl[j].cap) := e1 ▸ h6
  exact ⟨(hx j s hs).1, (hx j s hs).2, g, 0, cl[j].A, cl[j].cap, rfl, h5, e1 ▸ h2, h7⟩
end Go.Proofs.YtmpdhmdmfmgamaaDoor
