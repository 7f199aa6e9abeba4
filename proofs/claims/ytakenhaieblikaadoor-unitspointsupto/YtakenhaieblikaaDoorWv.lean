import Derived.Test.YtakenhaieblikaaDoorWt
namespace Go.Proofs.YtakenhaieblikaaDoor
open Go.RowKit Go.Shelf
attribute [local go_sem] Oper.semAt_some

def widN (l : List PT) : Nat := (uN l).length
theorem widN_snoc (l : List PT) (x : PT) : widN (l ++ [x]) = widN l + wid x.1.2 := by
  unfold widN; rw [uN_snoc, List.length_append, U_wid]
theorem widN_le (l : List PT) : widN l ≤ 2 * l.length := uN_len l

set_option maxHeartbeats 2000000 in
set_option maxRecDepth 100000 in
theorem len_good (s : ByteArray) (cs : List CP) (hs : nums s = bytes cs) (hv : vS s = true) (hsz : s.size ≤ 1099511627776) (w : World) (hT : Lib.Utf8Tabs 0 1 w) :
    Calls Tryd.prog 11 #[.string s] w fun e w' => e = .returned (.tuple #[.int .i64 ((unitsN (cs.map (·.1))).length : Nat), .int .i64 0]) ∧ Below w.heap.size w w' := by
  have hva := valid_any s w hT
  unfold vS at hv
  rw [hv] at hva
  have HV := hide hva; clear hva hv
  have HS := hide hs; clear hs
  have hcs : cs.length ≤ s.size := by rw [← nums_len, unhide HS]; exact bytes_len cs
  refine (callsIn_wide (n := 5)).1 ?_
  refine callsIn_of_wp_marks Tryd.func11 rfl trivial ?_ rfl
  simp only [Tryd.ntmps11, List.size_toArray, List.length_cons, List.length_nil, Nat.reduceAdd, Nat.reduceSub, Array.replicate_succ, Array.replicate_zero, List.push_toArray, List.append_toArray, List.nil_append, List.cons_append]
  gi_wp2_with fail
  refine ⟨trivial, (callsIn_wide.2 (unhide HV)).mono ?_⟩
  rintro e w1 ⟨rfl, hb⟩
  gi_wp2_with fail
  refine ⟨trivial, (callsIn_wide.2 (walk_any s _)).mono ?_⟩
  rintro e w' ⟨rfl, rfl⟩
  gi_wp2_with fail
  have h2w := tabs_size hT
  have bO := Boxed.new w1 3 (.int .i64 0)
  have bN := Boxed.new (w1.alloc (.cells #[.int .i64 0] 3)) 9 (.string s)
  rw [World.size_alloc] at bN
  have hszm := hb.size
  have hB0 : Below w.heap.size w ((w1.alloc (.cells #[.int .i64 0] 3)).alloc (.cells #[.string s] 9)) := (hb.alloc hszm _).alloc (by simp; omega) _
  refine wpIn_rangeFunc_ownG rfl (by omega) (gf := 64) (lb := #[.pointer (some ⟨w1.heap.size + 1, 0, none⟩)]) rfl trivial (enters_of Tryd.func64 (by kernel_rfl) rfl)
    (walk_stops 4 (by omega) (w1.heap.size + 1) w.heap.size s cs (unhide HS) (by omega) _ (by simp) h2w (by simp; omega) bN.cell (tabs_below hT hB0)) belowK_t (belowK_b (by simp; omega)) (Below.refl _ _) (fun _ => rfl)
    (fun pre W => Boxed W w1.heap.size 3 (.int .i64 (widN pre : Nat)) ∧ Below w.heap.size w W)
    (fun _ _ _ => False)
    (OwnFrom.and (Own.from (I := fun pre W => Boxed W w1.heap.size 3 (.int .i64 (widN pre : Nat))) (fun s A B row hs hg hr => box_kept hs hg hr) _) (ownFrom_below (Nat.le_refl _) (by simp; omega)))
    (fun _ _ _ _ _ hs _ _ => hs)
    ⟨bO.alloc _, hB0⟩
    (fun x => { tmps := #[.string s, undef, .int .i64 0, .int .i64 0, .pointer (some ⟨w1.heap.size, 0, none⟩), undef, .int .i32 (x.1.2 : Nat), .string s, .bool true, .bool false, .string s, .func (.func 64) #[] #[.pointer (some ⟨w1.heap.size + 1, 0, none⟩)], .int .i64 (x.1.1 : Nat), .int .i32 (x.1.2 : Nat), undef, undef, undef, undef, undef], defers := [] }) ?assign ?body ?done ?stop
  case assign =>
    intro l x W K hK
    simp only [encs]
    gi_wp2
    exact hK
  case body =>
    rintro l pre x W ⟨hv0, hB⟩ hlt
    have hc := hv0.cell
    have hf := hv0.frozen
    have hul := widN_le pre
    have hpl := pts_len 0 cs
    have hwd : wid x.1.2 ≤ 2 := by unfold wid; split <;> omega
    have hwd0 : (0 : Int) ≤ (wid x.1.2 : Nat) := by omega
    have hn0 : (0 : Int) ≤ (widN pre : Nat) := by omega
    have hn1 : ((widN pre : Nat) : Int) ≤ 4398046511104 := by omega
    have hn2 : ((wid x.1.2 : Nat) : Int) ≤ 2 := by omega
    have hwr : IntKind.i64.wrap (((widN pre : Nat) : Int) + ((wid x.1.2 : Nat) : Int)) = ((widN (pre ++ [x]) : Nat) : Int) := by
      rw [widN_snoc, IntKind.wrap_i64]; omega
    have hset : Boxed (W.drew.setCell ⟨w1.heap.size, 0, none⟩ (.int .i64 (IntKind.i64.wrap (((widN pre : Nat) : Int) + ((wid x.1.2 : Nat) : Int))))) w1.heap.size 3 (.int .i64 (widN (pre ++ [x]) : Nat)) := by
      have hvd : Boxed W.drew w1.heap.size 3 (.int .i64 (widN pre : Nat)) := box_kept (row := none) hv0 ⟨rfl, rfl, rfl, Nat.le_refl _, fun _ _ _ => rfl⟩ (fun r e => by cases e)
      rw [← hwr]; exact hvd.set _
    clear hwr
    have hmix : Tryd.prog.follows .mixedOrders = true := by kernel_rfl
    gi_wp2_with fail
    refine wpIn_region_any hmix ?_
    change wpAnyIn _ _ _ _ _ _ _ _ _ (World.drew _)
    refine wpAnyIn_ready (rs := [0, 1]) (by kernel_rfl) (by simp) ?_
    refine AllReadyIn.cons rfl (fun K hK => ?_) (AllReadyIn.cons rfl (fun K hK => ?_) AllReadyIn.nil)
    · go_simp
      refine hK _ _ ?_
      clear hK K
      refine wpAnyIn_ready (rs := [1]) (by kernel_rfl) (by simp) ?_
      refine AllReadyIn.cons rfl (fun K hK => ?_) AllReadyIn.nil
      go_simp
      refine hK _ _ ?_
      clear hK K
      refine wpAnyIn_ready (rs := [2]) (by kernel_rfl) (by simp) ?_
      refine AllReadyIn.cons rfl (fun K hK => ?_) AllReadyIn.nil
      go_simp
      gi_wp2_with (refine ⟨trivial, ?_⟩; gi_at_call 43; refine (CallsIn.inRound l (callsIn_wide.2 (width_nat _ _))).mono ?_; rintro e w' ⟨rfl, rfl⟩)
      refine wpAnyIn_ready (rs := [3]) (by kernel_rfl) (by simp) ?_
      refine AllReadyIn.cons rfl (fun K hK => ?_) AllReadyIn.nil
      go_simp
      refine hK _ _ ?_
      clear hK K
      refine wpAnyIn_ready (rs := [4]) (by kernel_rfl) (by simp) ?_
      refine AllReadyIn.cons rfl (fun K hK => ?_) AllReadyIn.nil
      go_simp
      refine hK _ _ ?_
      clear hK K
      refine wpAnyIn_done (by kernel_rfl) ?_ _
      gi_wp2
      exact ⟨((KeepsOthers.drew W).trans (KeepsOthers.setCell _ _ _)).from _, ((Below.refl _ W).drew).setCell (p := ⟨w1.heap.size, 0, none⟩) hszm _, hset, hB.drew.setCell (p := ⟨w1.heap.size, 0, none⟩) hszm _⟩
    · go_simp
      refine hK _ _ ?_
      clear hK K
      refine wpAnyIn_ready (rs := [0, 2]) (by kernel_rfl) (by simp) ?_
      refine AllReadyIn.cons rfl (fun K hK => ?_) (AllReadyIn.cons rfl (fun K hK => ?_) AllReadyIn.nil)
      · go_simp
        refine hK _ _ ?_
        clear hK K
        refine wpAnyIn_ready (rs := [2]) (by kernel_rfl) (by simp) ?_
        refine AllReadyIn.cons rfl (fun K hK => ?_) AllReadyIn.nil
        go_simp
        gi_wp2_with (refine ⟨trivial, ?_⟩; gi_at_call 43; refine (CallsIn.inRound l (callsIn_wide.2 (width_nat _ _))).mono ?_; rintro e w' ⟨rfl, rfl⟩)
        refine wpAnyIn_ready (rs := [3]) (by kernel_rfl) (by simp) ?_
        refine AllReadyIn.cons rfl (fun K hK => ?_) AllReadyIn.nil
        go_simp
        refine hK _ _ ?_
        clear hK K
        refine wpAnyIn_ready (rs := [4]) (by kernel_rfl) (by simp) ?_
        refine AllReadyIn.cons rfl (fun K hK => ?_) AllReadyIn.nil
        go_simp
        refine hK _ _ ?_
        clear hK K
        refine wpAnyIn_done (by kernel_rfl) ?_ _
        gi_wp2
        exact ⟨((KeepsOthers.drew W).trans (KeepsOthers.setCell _ _ _)).from _, ((Below.refl _ W).drew).setCell (p := ⟨w1.heap.size, 0, none⟩) hszm _, hset, hB.drew.setCell (p := ⟨w1.heap.size, 0, none⟩) hszm _⟩
      · go_simp
        gi_wp2_with (refine ⟨trivial, ?_⟩; gi_at_call 43; refine (CallsIn.inRound l (callsIn_wide.2 (width_nat _ _))).mono ?_; rintro e w' ⟨rfl, rfl⟩)
        refine wpAnyIn_ready (rs := [0]) (by kernel_rfl) (by simp) ?_
        refine AllReadyIn.cons rfl (fun K hK => ?_) AllReadyIn.nil
        go_simp
        refine hK _ _ ?_
        clear hK K
        refine wpAnyIn_ready (rs := [3]) (by kernel_rfl) (by simp) ?_
        refine AllReadyIn.cons rfl (fun K hK => ?_) AllReadyIn.nil
        go_simp
        refine hK _ _ ?_
        clear hK K
        refine wpAnyIn_ready (rs := [4]) (by kernel_rfl) (by simp) ?_
        refine AllReadyIn.cons rfl (fun K hK => ?_) AllReadyIn.nil
        go_simp
        refine hK _ _ ?_
        clear hK K
        refine wpAnyIn_done (by kernel_rfl) ?_ _
        gi_wp2
        exact ⟨((KeepsOthers.drew W).trans (KeepsOthers.setCell _ _ _)).from _, ((Below.refl _ W).drew).setCell (p := ⟨w1.heap.size, 0, none⟩) hszm _, hset, hB.drew.setCell (p := ⟨w1.heap.size, 0, none⟩) hszm _⟩
  case done =>
    rintro D ys W hD rfl ⟨hv0, hB⟩ hK
    have hc := hv0.cell
    gi_wp2
    refine ⟨by simp, .inl ⟨_, _, rfl, run_takeDeferred hK, ?_⟩⟩
    refine ⟨_, results_tmp2 rfl _ _ _, ?_, hB.trans (belowK_b (w := w) (Nat.le_refl _) W D _ _ (by simp at hD; omega) hK rfl rfl)⟩
    unfold widN
    rw [← uN_pts 0 cs]
    rfl
  case stop =>
    rintro D c pre W _ _ h _
    exact h.elim

set_option maxHeartbeats 1000000 in
set_option maxRecDepth 100000 in
theorem len_any (s : ByteArray) (hsz : s.size ≤ 1099511627776) (w : World) (hT : Lib.Utf8Tabs 0 1 w) :
    Calls Tryd.prog 11 #[.string s] w fun e w' => e = .returned (.tuple #[.int .i64 ((unS s).length : Nat), .int .i64 (erS s)]) ∧ Below w.heap.size w w' := by
  cases hv : vS s with
  | false =>
    have hva := valid_any s w hT
    have hu : unS s = [] := by unfold unS; rw [hv]; rfl
    rw [hu, erS_bad' hv]
    unfold vS at hv
    rw [hv] at hva
    have HV := hide hva; clear hva hv hu
    go_enter Tryd.func11, Tryd.ntmps11
    go_wp2_with fail
    refine (unhide HV).mono ?_
    rintro e w1 ⟨rfl, hb⟩
    go_wp2
    go_ret2
    exact ⟨rfl, hb⟩
  | true =>
    obtain ⟨cs, h1, h2, _⟩ := valid_cs s hv
    rw [erS_ok' hv, h2]
    exact len_good s cs h1 hv hsz w hT
end Go.Proofs.YtakenhaieblikaaDoor
