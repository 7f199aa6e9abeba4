import Derived.Test.YtnlbapheggnlpabDoorBc
namespace Go.Proofs.YtnlbapheggnlpabDoor
open Go.RowKit Go.Shelf
attribute [local go_sem] Oper.semAt_some

set_option maxRecDepth 100000 in
set_option maxHeartbeats 1000000 in
theorem walk1_in_big (n : Nat) (hn : 1 ≤ n) (l Bn n₀ : Nat) (s : ByteArray) (cs : List CP) (hs : nums s = bytes cs) (hsz : s.size ≤ 9223372036854775807) (J Jx : List PT → World → Prop) (hn2 : 2 ≤ n₀)
    (W : World) (hAb : AbidesFrom W.heap.size J)
    (hY : ∀ pre x W, J pre W → pre.length < (pts 0 cs).length → YieldAt Fence.wide (n - 1) Tryd.prog l (encs x) W fun e W' =>
      (e = .returned (.bool true) ∧ J (pre ++ [x]) W' ∧ Below n₀ W W') ∨ (e = .returned (.bool false) ∧ Jx (pre ++ [x]) W'))
    (hBn : W.cell? ⟨Bn, 0, none⟩ = some (.string s)) (hT : Lib.Utf8Tabs 0 1 W) (h0 : J [] W) (hn₀ : n₀ ≤ W.heap.size) :
    CallsIn Fence.wide n Tryd.prog 29 #[.func (.yield l) #[] #[], .pointer (some ⟨Bn, 0, none⟩)] W fun e W' => (∃ v, e = .returned v) ∧
      ((∃ ys, ys = pts 0 cs ∧ J ys W') ∨ (∃ pre, pre <+: pts 0 cs ∧ Jx pre W')) := by
  refine callsIn_of_wp Tryd.func29 rfl trivial ?_ rfl
  simp only [Tryd.ntmps29, List.size_toArray, List.length_cons, List.length_nil, Nat.reduceAdd, Nat.reduceSub, Array.replicate_succ, Array.replicate_zero, List.push_toArray, List.append_toArray, List.nil_append, List.cons_append]
  gi_wp2
  gi_loopw [3, 4] (fun a t wr => ∃ (pre : List PT) (k : Nat) (rest : List CP) (u : ByteArray), a = .int .i64 (k : Nat) ∧ t = .string u ∧ nums u = bytes rest ∧ pts 0 cs = pre ++ pts k rest ∧ k + u.size ≤ s.size ∧ J pre wr ∧ W.heap.size ≤ wr.heap.size ∧ Lib.Utf8Tabs 0 1 wr ∧ n₀ ≤ wr.heap.size)
    (fun _ t _ => strLen t)
  case atStart =>
    exact ⟨[], 0, cs, s, rfl, rfl, hs, rfl, by omega, h0, Nat.le_refl _, hT, hn₀⟩
  case round =>
    obtain ⟨pre, k, rest, u, rfl, rfl, hu, hx, hk, hJs, hWr, hTr, hnr⟩ := hrel
    have HU := hide hu; clear hu
    have HX := hide hx; clear hx
    cases rest with
    | nil =>
      have hE : u.toList.isEmpty = true := isEmpty_of_nil (unhide HU)
      gi_wp2
      go_end0
      exact ⟨⟨_, rfl⟩, .inl ⟨pre, by rw [unhide HX]; simp [pts], hJs⟩⟩
    | cons c rest =>
      have hlen := M.E_len c.1
      have hsize : u.size = (M.E c.1).length + (bytes rest).length := by
        rw [← nums_len, unhide HU]; simp [bytes]
      have hE : u.toList.isEmpty = false := isEmpty_of_size (by omega)
      have hdec : M.dec (nums u) = (c.1, (M.E c.1).length) := by
        rw [unhide HU]; simp only [bytes, List.map_cons, List.flatMap_cons]; exact M.dec_E c.1 _ c.2
      have hdc := decode_any u wr hTr
      rw [hdec] at hdc
      have hwid : wid c.1 ≤ (M.E c.1).length := wid_le c.1
      have hdrop : (nums u).drop (M.E c.1).length = bytes rest := by
        rw [unhide HU]; simp only [bytes, List.map_cons, List.flatMap_cons, List.drop_left]
      clear hdec
      have HDr := hide hdrop; clear hdrop
      generalize (M.E c.1).length = m at *
      dsimp only at hdc
      have hm1 : (m : Int) ≤ (u.size : Int) := by omega
      clear hsize
      have HD := hide hdc; clear hdc
      have HY := hide hY; clear hY
      gi_wp2_with fail
      refine ⟨trivial, (callsIn_wide.2 (unhide HD)).mono ?_⟩
      rintro e w1 ⟨rfl, hb⟩
      have hJ1 := hAb pre wr w1 none hJs (grown_of_below hb) (fun r e => by cases e)
      obtain ⟨fn, tmps, assign, body, hy, hR⟩ := (unhide HY) pre ⟨(k, c.1), c.2⟩ w1 hJ1 (by rw [unhide HX]; simp [pts])
      simp only [encs] at hy
      have HHR := hide hR; clear hR
      have hwb : wid c.1 ≤ 2 := by unfold wid; split <;> omega
      have hwp : 1 ≤ wid c.1 := by unfold wid; split <;> omega
      generalize hg : wid c.1 = wd at *
      have HG := hide hg; clear hg
      gi_wp2_with fail
      refine (unhide HHR).mono ?_
      rintro e W3 (⟨rfl, hJ3, hk3⟩ | ⟨rfl, hJx3⟩)
      · gi_wp2_with fail
        refine ⟨trivial, (callsIn_wide.2 (width_nat c.1 _)).mono ?_⟩
        rintro e w4 ⟨rfl, rfl⟩
        rw [unhide HG]
        gi_wp2
        go_roundw
        case rel =>
          refine ⟨pre ++ [⟨(k, c.1), c.2⟩], k + wd, rest, u.extract m u.size, by simp, rfl, by rw [nums_extract]; exact unhide HDr, ?_, ?_, hJ3, ?_, ?_, ?_⟩
          · rw [unhide HX]; simp [pts, unhide HG]
          · rw [size_extract]; omega
          · have := hb.size; have := hk3.size; omega
          · exact tabs_belowB (tabs_below hTr hb) hn2 hk3
          · have := hb.size; have := hk3.size; omega
        case measure => simp only [strLen]; rw [size_extract]; omega
      · gi_wp2
        refine bodyPost_ret (results_none rfl _ _ _) rfl ?_
        exact ⟨⟨_, rfl⟩, .inr ⟨pre ++ [⟨(k, c.1), c.2⟩], ⟨pts (k + wid c.1) rest, by rw [unhide HX]; simp [pts]⟩, hJx3⟩⟩

theorem walk_stops_big (n : Nat) (hn : 1 ≤ n) (Bn n₀ : Nat) (s : ByteArray) (cs : List CP) (hs : nums s = bytes cs) (hsz : s.size ≤ 9223372036854775807) (w : World) (hBn : Bn < w.heap.size) (hn2 : 2 ≤ n₀) (hn₀ : n₀ ≤ w.heap.size)
    (hc : w.cell? ⟨Bn, 0, none⟩ = some (.string s)) (hT : Lib.Utf8Tabs 0 1 w) :
    SeqStopsK Fence.wide n Tryd.prog 29 #[.pointer (some ⟨Bn, 0, none⟩)] encs (Below n₀) (fun ys => ys = pts 0 cs) (fun pre => pre <+: pts 0 cs) (pts 0 cs).length w := fun l J Jx W hW hAb _ hY h0 =>
  walk1_in_big n hn l Bn n₀ s cs hs hsz J Jx hn2 W hAb hY ((hW.cell (p := ⟨Bn, 0, none⟩) hBn).trans hc) (tabs_below hT hW) h0 (Nat.le_trans hn₀ hW.size)
theorem wrap_add_left (a b : Int) : IntKind.i64.wrap (wrap64 a + b) = wrap64 (a + b) := by
  rw [IntKind.wrap_i64]
  unfold wrap64
  have e1 : (a + 9223372036854775808) % 18446744073709551616 - 9223372036854775808 + b + 9223372036854775808 = (a + 9223372036854775808) % 18446744073709551616 + b := by
    generalize (a + 9223372036854775808) % 18446744073709551616 = m
    omega
  have e2 : a + b + 9223372036854775808 = (a + 9223372036854775808) + b := by omega
  rw [e1, e2, Int.emod_add_emod]
theorem wrap_id (n : Nat) (h : n ≤ 9223372036854775807) : wrap64 (n : Int) = (n : Int) := by
  unfold wrap64; omega
theorem un_le : ∀ cs : List CP, (unitsN (cs.map (·.1))).length ≤ (bytes cs).length
  | [] => by simp [unitsN, bytes]
  | c :: r => by
    have := un_le r
    have h1 := wid_le c.1
    rw [List.map_cons, unitsN_cons, List.length_append, U_wid]
    simp only [bytes, List.map_cons, List.flatMap_cons, List.length_append] at *
    omega
set_option maxHeartbeats 2000000 in
set_option maxRecDepth 100000 in
theorem len_good_big (s : ByteArray) (cs : List CP) (hs : nums s = bytes cs) (hv : vS s = true) (hsz : s.size ≤ 9223372036854775807) (w : World) (hT : Lib.Utf8Tabs 0 1 w) :
    Calls Tryd.prog 6 #[.string s] w fun e w' => e = .returned (.tuple #[.int .i64 ((unitsN (cs.map (·.1))).length : Nat), .int .i64 0]) ∧ Below w.heap.size w w' := by
  have hva := valid_any s w hT
  unfold vS at hv
  rw [hv] at hva
  have HV := hide hva; clear hva hv
  have HS := hide hs; clear hs
  have hcs : cs.length ≤ s.size := by rw [← nums_len, unhide HS]; exact bytes_len cs
  refine (callsIn_wide (n := 5)).1 ?_
  refine callsIn_of_wp_marks Tryd.func6 rfl trivial ?_ rfl
  simp only [Tryd.ntmps6, List.size_toArray, List.length_cons, List.length_nil, Nat.reduceAdd, Nat.reduceSub, Array.replicate_succ, Array.replicate_zero, List.push_toArray, List.append_toArray, List.nil_append, List.cons_append]
  gi_wp2_with fail
  refine ⟨trivial, (callsIn_wide.2 (unhide HV)).mono ?_⟩
  rintro e w1 ⟨rfl, hb⟩
  gi_wp2_with fail
  refine ⟨trivial, (callsIn_wide.2 (walk_any s _)).mono ?_⟩
  rintro e w' ⟨rfl, rfl⟩
  gi_wp2_with fail
  have h2w := tabs_size hT
  have bO := Boxed.new w1 3 (.int .i64 0)
  have bN := Boxed.new (w1.alloc (.cells #[.int .i64 0] 3)) 9 (.string s)
  rw [World.size_alloc] at bN
  have hszm := hb.size
  have hz0 : wrap64 ((widN [] : Nat) : Int) = 0 := by simp [widN, uN, wrap64]
  have hB0 : Below w.heap.size w ((w1.alloc (.cells #[.int .i64 0] 3)).alloc (.cells #[.string s] 9)) := (hb.alloc hszm _).alloc (by simp; omega) _
  refine wpIn_rangeFunc_ownG rfl (by omega) (gf := 29) (lb := #[.pointer (some ⟨w1.heap.size + 1, 0, none⟩)]) rfl trivial (enters_of Tryd.func29 (by kernel_rfl) rfl)
    (walk_stops_big 4 (by omega) (w1.heap.size + 1) w.heap.size s cs (unhide HS) (by omega) _ (by simp) h2w (by simp; omega) bN.cell (tabs_below hT hB0)) belowK_t (belowK_b (by simp; omega)) (Below.refl _ _) (fun _ => rfl)
    (fun pre W => Boxed W w1.heap.size 3 (.int .i64 (wrap64 (widN pre : Nat))) ∧ Below w.heap.size w W)
    (fun _ _ _ => False)
    (OwnFrom.and (Own.from (I := fun pre W => Boxed W w1.heap.size 3 (.int .i64 (wrap64 (widN pre : Nat)))) (fun s A B row hs hg hr => box_kept hs hg hr) _) (ownFrom_below (Nat.le_refl _) (by simp; omega)))
    (fun _ _ _ _ _ hs _ _ => hs)
    ⟨by rw [hz0]; exact bO.alloc _, hB0⟩
    (fun x => { tmps := #[.string s, undef, .int .i64 0, .int .i64 0, .pointer (some ⟨w1.heap.size, 0, none⟩), undef, .int .i32 (x.1.2 : Nat), .string s, .bool true, .bool false, .string s, .func (.func 29) #[] #[.pointer (some ⟨w1.heap.size + 1, 0, none⟩)], .int .i64 (x.1.1 : Nat), .int .i32 (x.1.2 : Nat), undef, undef, undef, undef, undef], defers := [] }) ?assign ?body ?done ?stop
  case assign =>
    intro l x W K hK
    simp only [encs]
    gi_wp2
    exact hK
  case body =>
    rintro l pre x W ⟨hv0, hB⟩ hlt
    have hc := hv0.cell
    have hf := hv0.frozen
    have hul := widN_le pre
    have hpl := pts_len 0 cs
    have hwd : wid x.1.2 ≤ 2 := by unfold wid; split <;> omega
    have hwd0 : (0 : Int) ≤ (wid x.1.2 : Nat) := by omega
    have hn2 : ((wid x.1.2 : Nat) : Int) ≤ 2 := by omega
    have hwr : IntKind.i64.wrap (wrap64 ((widN pre : Nat) : Int) + ((wid x.1.2 : Nat) : Int)) = wrap64 ((widN (pre ++ [x]) : Nat) : Int) := by
      rw [wrap_add_left, widN_snoc]; rfl
    have hset : Boxed (W.drew.setCell ⟨w1.heap.size, 0, none⟩ (.int .i64 (IntKind.i64.wrap (wrap64 ((widN pre : Nat) : Int) + ((wid x.1.2 : Nat) : Int))))) w1.heap.size 3 (.int .i64 (wrap64 (widN (pre ++ [x]) : Nat))) := by
      have hvd : Boxed W.drew w1.heap.size 3 (.int .i64 (wrap64 (widN pre : Nat))) := box_kept (row := none) hv0 ⟨rfl, rfl, rfl, Nat.le_refl _, fun _ _ _ => rfl⟩ (fun r e => by cases e)
      rw [← hwr]; exact hvd.set _
    clear hwr
    have hmix : Tryd.prog.follows .mixedOrders = true := by kernel_rfl
    gi_wp2_with fail
    refine wpIn_region_any hmix ?_
    change wpAnyIn _ _ _ _ _ _ _ _ _ (World.drew _)
    refine wpAnyIn_ready (rs := [0, 1]) (by kernel_rfl) (by simp) ?_
    refine AllReadyIn.cons rfl (fun K hK => ?_) (AllReadyIn.cons rfl (fun K hK => ?_) AllReadyIn.nil)
    · go_simp
      refine hK _ _ ?_
      clear hK K
      refine wpAnyIn_ready (rs := [1]) (by kernel_rfl) (by simp) ?_
      refine AllReadyIn.cons rfl (fun K hK => ?_) AllReadyIn.nil
      go_simp
      refine hK _ _ ?_
      clear hK K
      refine wpAnyIn_ready (rs := [2]) (by kernel_rfl) (by simp) ?_
      refine AllReadyIn.cons rfl (fun K hK => ?_) AllReadyIn.nil
      go_simp
      gi_wp2_with (refine ⟨trivial, ?_⟩; gi_at_call 16; refine (CallsIn.inRound l (callsIn_wide.2 (width_nat _ _))).mono ?_; rintro e w' ⟨rfl, rfl⟩)
      refine wpAnyIn_ready (rs := [3]) (by kernel_rfl) (by simp) ?_
      refine AllReadyIn.cons rfl (fun K hK => ?_) AllReadyIn.nil
      go_simp
      refine hK _ _ ?_
      clear hK K
      refine wpAnyIn_ready (rs := [4]) (by kernel_rfl) (by simp) ?_
      refine AllReadyIn.cons rfl (fun K hK => ?_) AllReadyIn.nil
      go_simp
      refine hK _ _ ?_
      clear hK K
      refine wpAnyIn_done (by kernel_rfl) ?_ _
      gi_wp2
      exact ⟨((KeepsOthers.drew W).trans (KeepsOthers.setCell _ _ _)).from _, ((Below.refl _ W).drew).setCell (p := ⟨w1.heap.size, 0, none⟩) hszm _, hset, hB.drew.setCell (p := ⟨w1.heap.size, 0, none⟩) hszm _⟩
    · go_simp
      refine hK _ _ ?_
      clear hK K
      refine wpAnyIn_ready (rs := [0, 2]) (by kernel_rfl) (by simp) ?_
      refine AllReadyIn.cons rfl (fun K hK => ?_) (AllReadyIn.cons rfl (fun K hK => ?_) AllReadyIn.nil)
      · go_simp
        refine hK _ _ ?_
        clear hK K
        refine wpAnyIn_ready (rs := [2]) (by kernel_rfl) (by simp) ?_
        refine AllReadyIn.cons rfl (fun K hK => ?_) AllReadyIn.nil
        go_simp
        gi_wp2_with (refine ⟨trivial, ?_⟩; gi_at_call 16; refine (CallsIn.inRound l (callsIn_wide.2 (width_nat _ _))).mono ?_; rintro e w' ⟨rfl, rfl⟩)
        refine wpAnyIn_ready (rs := [3]) (by kernel_rfl) (by simp) ?_
        refine AllReadyIn.cons rfl (fun K hK => ?_) AllReadyIn.nil
        go_simp
        refine hK _ _ ?_
        clear hK K
        refine wpAnyIn_ready (rs := [4]) (by kernel_rfl) (by simp) ?_
        refine AllReadyIn.cons rfl (fun K hK => ?_) AllReadyIn.nil
        go_simp
        refine hK _ _ ?_
        clear hK K
        refine wpAnyIn_done (by kernel_rfl) ?_ _
        gi_wp2
        exact ⟨((KeepsOthers.drew W).trans (KeepsOthers.setCell _ _ _)).from _, ((Below.refl _ W).drew).setCell (p := ⟨w1.heap.size, 0, none⟩) hszm _, hset, hB.drew.setCell (p := ⟨w1.heap.size, 0, none⟩) hszm _⟩
      · go_simp
        gi_wp2_with (refine ⟨trivial, ?_⟩; gi_at_call 16; refine (CallsIn.inRound l (callsIn_wide.2 (width_nat _ _))).mono ?_; rintro e w' ⟨rfl, rfl⟩)
        refine wpAnyIn_ready (rs := [0]) (by kernel_rfl) (by simp) ?_
        refine AllReadyIn.cons rfl (fun K hK => ?_) AllReadyIn.nil
        go_simp
        refine hK _ _ ?_
        clear hK K
        refine wpAnyIn_ready (rs := [3]) (by kernel_rfl) (by simp) ?_
        refine AllReadyIn.cons rfl (fun K hK => ?_) AllReadyIn.nil
        go_simp
        refine hK _ _ ?_
        clear hK K
        refine wpAnyIn_ready (rs := [4]) (by kernel_rfl) (by simp) ?_
        refine AllReadyIn.cons rfl (fun K hK => ?_) AllReadyIn.nil
        go_simp
        refine hK _ _ ?_
        clear hK K
        refine wpAnyIn_done (by kernel_rfl) ?_ _
        gi_wp2
        exact ⟨((KeepsOthers.drew W).trans (KeepsOthers.setCell _ _ _)).from _, ((Below.refl _ W).drew).setCell (p := ⟨w1.heap.size, 0, none⟩) hszm _, hset, hB.drew.setCell (p := ⟨w1.heap.size, 0, none⟩) hszm _⟩
  case done =>
    rintro D ys W hD rfl ⟨hv0, hB⟩ hK
    have hc := hv0.cell
    gi_wp2
    refine ⟨by simp, .inl ⟨_, _, rfl, run_takeDeferred hK, ?_⟩⟩
    refine ⟨_, results_tmp2 rfl _ _ _, ?_, hB.trans (belowK_b (w := w) (Nat.le_refl _) W D _ _ (by simp at hD; omega) hK rfl rfl)⟩
    have hle := un_le cs
    rw [← unhide HS, nums_len] at hle
    have hwz : wrap64 ((widN (pts 0 cs) : Nat) : Int) = ((unitsN (cs.map (·.1))).length : Nat) := by
      unfold widN; rw [uN_pts 0 cs]; exact wrap_id _ (Nat.le_trans hle hsz)
    rw [← hwz]
    rfl
  case stop =>
    rintro D c pre W _ _ h _
    exact h.elim

set_option maxHeartbeats 1000000 in
set_option maxRecDepth 100000 in
theorem len_any_big (s : ByteArray) (hsz : s.size ≤ 9223372036854775807) (w : World) (hT : Lib.Utf8Tabs 0 1 w) :
    Calls Tryd.prog 6 #[.string s] w fun e w' => e = .returned (.tuple #[.int .i64 ((unS s).length : Nat), .int .i64 (erS s)]) ∧ Below w.heap.size w w' := by
  cases hv : vS s with
  | false =>
    have hva := valid_any s w hT
    have hu : unS s = [] := by unfold unS; rw [hv]; rfl
    rw [hu, erS_bad' hv]
    unfold vS at hv
    rw [hv] at hva
    have HV := hide hva; clear hva hv hu
    go_enter Tryd.func6, Tryd.ntmps6
    go_wp2_with fail
    refine (unhide HV).mono ?_
    rintro e w1 ⟨rfl, hb⟩
    go_wp2
    go_ret2
    exact ⟨rfl, hb⟩
  | true =>
    obtain ⟨cs, h1, h2, _⟩ := valid_cs s hv
    rw [erS_ok' hv, h2]
    exact len_good_big s cs h1 hv hsz w hT

set_option maxHeartbeats 4000000 in
set_option maxRecDepth 100000 in
theorem law_cuts_big (s : ByteArray) (k : Int) (hsz : s.size ≤ 9223372036854775807) (w : World) (hT : Lib.Utf8Tabs 0 1 w) :
    Calls Tryd.prog 3 #[.string s, .int .i64 k] w fun e w' => e = .returned (.bool true) ∧ Below w.heap.size w w' := by
  by_cases hs : s.size ≤ 1048576
  · exact law_cuts s k hs w hT
  have HT := hide hT; clear hT
  have hs' : (1048576 : Int) < (s.size : Int) := by omega
  have HLn := hide (fun w hT => len_any_big s hsz w hT)
  cases hv : vS s with
  | false =>
    have he := erS_bad' hv
    rw [he] at HLn
    have HV := hide (fun w hT => valid_v s false hv w hT)
    clear he hv
    generalize ((unS s).length : Int) = n at *
    go_enter Tryd.func3, Tryd.ntmps3
    go_wp2_with fail
    refine (awake_any w (unhide HT)).mono ?_
    rintro e w0 ⟨rfl, hB0⟩
    go_wp2_with fail
    refine (unhide HLn w0 (tabs_below (unhide HT) hB0)).mono ?_
    rintro e w1 ⟨rfl, hb1⟩
    have hB1 := hB0.trans (hb1.mono hB0.size)
    go_wp2_with fail
    refine (unhide HV w1 (tabs_below (unhide HT) hB1)).mono ?_
    rintro e w2 ⟨rfl, hb2⟩
    have hB2 := hB1.trans (hb2.mono hB1.size)
    go_wp2
    go_ret
    exact ⟨rfl, hB2⟩
  | true =>
    have he := erS_ok' hv
    rw [he] at HLn
    clear he hv
    generalize ((unS s).length : Int) = n at *
    go_enter Tryd.func3, Tryd.ntmps3
    go_wp2_with fail
    refine (awake_any w (unhide HT)).mono ?_
    rintro e w0 ⟨rfl, hB0⟩
    go_wp2_with fail
    refine (unhide HLn w0 (tabs_below (unhide HT) hB0)).mono ?_
    rintro e w1 ⟨rfl, hb1⟩
    have hB1 := hB0.trans (hb1.mono hB0.size)
    go_wp2
    go_ret
    exact ⟨rfl, hB1⟩
end Go.Proofs.YtnlbapheggnlpabDoor
