import Derived.Test.YtkpfikeggleenaaGreatDoorWd
namespace Go.Proofs.YtkpfikeggleenaaGreatDoor
open Go.RowKit Go.Shelf
attribute [local go_sem] Oper.semAt_some

def u16v (u : Nat) : Value := .int .u16 (u : Nat)
def unitsN (cs : List Nat) : List Nat := cs.flatMap M.U
theorem info127 : (Tryz.prog.info? 127).map (fun i => (i.zero, i.size, i.bytes)) = some (some (.int .u16 0), 1, 2) := by kernel_rfl

/-- append onto a row of one's own, as one step of a region that draws its order, inside a fence. -/
theorem stepIn_append {F : Fence} {n : Nat} {P : Program} (w : World) {ops : Array Oper} {o : Oper} {a : Act} {K : Act → World → Prop} {Q : Exit → Act → World → Prop} {E : Prop}
    (hg : o.guard = none) (s x : Operand) (t : TypeId) (hop : o.op = Op.call { callee := Callee.builtin Builtin.append, args := #[s, x], argTypes := #[t, t] })
    (base : Nat) (e : TypeId) (i : TypeInfo) (z : Value) (size bytes : Nat) (h1 : P.underlying t = some (.slice e)) (h2 : P.info? e = some i) (h3 : i.zero = some z) (h4 : i.size = size) (h5 : i.bytes = bytes) (h6 : z.cells.size = size) (h7 : 0 < size)
    (v : Value) (k : Nat) (xs : List Value) (hs : a.eval s = v) (hown : w.ownsRow base e size v k xs) (ad : Addr) (m c : Nat) (news : List Value) (hx : a.eval x = .slice (some ad) m c) (hn : news.length = m * size)
    (hc : ∀ j u, news[j]? = some u → w.cell? (ad.add j) = some u) (h1c : ∀ u ∈ news, u.oneCell' = true) (b1 : k + m ≤ maxLen) (b2 : (k + m) * bytes ≤ 140737488355328) (b3 : base ≤ w.heap.size)
    (hK : ∀ v' w', w'.ownsRow base e size v' (k + m) (xs ++ news) → w.grownBy w' v.ownBlock → (v' = .slice none 0 0 ↔ v = .slice none 0 0 ∧ m = 0) → K (a.put o.dst v') w') :
    if Region.wanted o (yielded ops a.tmps) = true then Oper.wpIn F n P o a w K Q else E := by
  have hw : Region.wanted o (yielded ops a.tmps) = true := by simp [Region.wanted, hg]
  rw [if_pos hw]
  obtain ⟨v', w', hrun, r1, r2, r3⟩ := run_append_own (P := P) w base t o.type e i z size bytes h1 h2 h3 h4 h5 h6 h7 v k xs hown ad m c news hn hc h1c b1 b2 b3
  unfold Oper.wpIn
  refine ⟨?_, ?_⟩
  · simp [Oper.about, hop, resolve, Target.leads, Sem.run_pure]
  · rw [Oper.semAt_plain F _ _ (by rw [hop]; intro c hc'; cases hc')]
    simp [execOp, hop, resolve, invoke, builtin, hs, hx, hrun, Result.andThen]
    exact hK v' w' r1 r2 r3

def fstU (c : Nat) : Nat := if 65536 ≤ c then 55296 + (c - 65536) / 1024 else c
def sndU (c : Nat) : Nat := 56320 + (c - 65536) % 1024
theorem first_nat (c : Nat) (hc : c ≤ 1114111) (w : World) : Calls Tryz.prog 90 #[.int .i32 (c : Nat)] w fun e w' => e = .returned (.int .u16 (fstU c : Nat)) ∧ w' = w := by
  refine (first_any (c : Int) (by omega) (by omega) w).mono ?_
  rintro e w' ⟨rfl, rfl⟩
  refine ⟨ret_int ?_, rfl⟩
  unfold fstU
  by_cases h : 65536 ≤ c
  · rw [if_pos (by omega), if_pos h]; omega
  · rw [if_neg (by omega), if_neg h]
theorem second_nat (c : Nat) (h0 : 65536 ≤ c) (hc : c ≤ 1114111) (w : World) : Calls Tryz.prog 92 #[.int .i32 (c : Nat)] w fun e w' => e = .returned (.int .u16 (sndU c : Nat)) ∧ w' = w := by
  refine (second_any (c : Int) (by omega) (by omega) w).mono ?_
  rintro e w' ⟨rfl, rfl⟩
  refine ⟨ret_int ?_, rfl⟩
  unfold sndU; omega
theorem U_one {c : Nat} (h : ¬ 65536 ≤ c) : M.U c = [fstU c] := by simp [M.U, fstU, h, Nat.lt_of_not_le h]
theorem U_two {c : Nat} (h : 65536 ≤ c) : M.U c = [fstU c, sndU c] := by simp [M.U, fstU, sndU, h, Nat.not_lt.2 h]

def uN (l : List PT) : List Nat := l.flatMap fun x => M.U x.1.2
theorem uN_snoc (l : List PT) (x : PT) : uN (l ++ [x]) = uN l ++ M.U x.1.2 := by simp [uN]
theorem uN_pts : ∀ (k : Nat) (cs : List CP), uN (pts k cs) = unitsN (cs.map (·.1))
  | _, [] => rfl
  | k, c :: r => by
    have := uN_pts (k + wid c.1) r
    simp only [uN, unitsN, pts, List.flatMap_cons, List.map_cons] at *
    rw [this]
theorem pts_len : ∀ (k : Nat) (cs : List CP), (pts k cs).length = cs.length
  | _, [] => rfl
  | k, c :: r => by simp [pts, pts_len]
theorem U_len (c : Nat) : (M.U c).length ≤ 2 := by unfold M.U; split <;> simp
theorem uN_len (l : List PT) : (uN l).length ≤ 2 * l.length := by
  induction l with
  | nil => simp [uN]
  | cons x r ih => have := U_len x.1.2; simp only [uN, List.flatMap_cons, List.length_append, List.length_cons] at *; omega
theorem bytes_len : ∀ (cs : List CP), cs.length ≤ (bytes cs).length
  | [] => by simp [bytes]
  | c :: r => by
    have := bytes_len r; have := M.E_len c.1
    simp only [bytes, List.map_cons, List.flatMap_cons, List.length_append, List.length_cons] at *; omega

set_option maxRecDepth 100000 in
set_option maxHeartbeats 2000000 in
theorem unitsOf_any (s : ByteArray) (cs : List CP) (hs : nums s = bytes cs) (hsz : s.size ≤ 1099511627776) (w : World) (hT : Lib.Utf8Tabs 3 4 w) :
    Calls Tryz.prog 73 #[.string s] w fun e W' => ∃ v, e = .returned v ∧ W'.ownsRow w.heap.size 127 1 v (unitsN (cs.map (·.1))).length ((unitsN (cs.map (·.1))).map u16v) ∧ Below w.heap.size w W' := by
  refine (callsIn_wide (n := 5)).1 ?_
  obtain ⟨i0, hi, hz0, hz1, hz2⟩ := info_parts info127
  refine callsIn_of_wp_marks Tryz.func73 rfl trivial ?_ rfl
  simp only [Tryz.ntmps73, List.size_toArray, List.length_cons, List.length_nil, Nat.reduceAdd, Nat.reduceSub, Array.replicate_succ, Array.replicate_zero, List.push_toArray, List.append_toArray, List.nil_append, List.cons_append]
  obtain ⟨wm, hmake, hrow0, hgrow0⟩ := run_make_own (P := Tryz.prog) w w.heap.size 110 127 i0 _ 1 Tryz.underlying110 hi hz0 hz1 .i64 .i64 s.size (by rw [hz2]; omega) (by unfold maxLen; omega) (Nat.le_refl _)
  have HS := hide hs; clear hs
  gi_wp2_with fail
  refine ⟨trivial, (callsIn_wide.2 (walk_any s _)).mono ?_⟩
  rintro e w' ⟨rfl, rfl⟩
  gi_wp2_with fail
  have hcs : cs.length ≤ s.size := by rw [← nums_len, unhide HS]; exact bytes_len cs
  have hpl := pts_len 0 cs
  have h2w := tabs_szW hT
  have bO := Boxed.new wm 110 (.slice (some ⟨w.heap.size, 0, none⟩) 0 s.size)
  have bN := Boxed.new (wm.alloc (.cells #[.slice (some ⟨w.heap.size, 0, none⟩) 0 s.size] 110)) 9 (.string s)
  rw [World.size_alloc] at bN
  have hBm : Below w.heap.size w wm := ⟨hgrow0.os, hgrow0.tape, hgrow0.output, hgrow0.size, fun k hk => hgrow0.block k hk (by simp)⟩
  have hszm := hBm.size
  have hB0 : Below w.heap.size w ((wm.alloc (.cells #[.slice (some ⟨w.heap.size, 0, none⟩) 0 s.size] 110)).alloc (.cells #[.string s] 9)) := (hBm.alloc hszm _).alloc (by simp; omega) _
  refine wpIn_rangeFunc_ownG rfl (by omega) (gf := 99) (lb := #[.pointer (some ⟨wm.heap.size + 1, 0, none⟩)]) rfl trivial (enters_of Tryz.func99 (by kernel_rfl) rfl)
    (walk_stops 4 (by omega) (wm.heap.size + 1) w.heap.size s cs (unhide HS) (by omega) _ (by simp) h2w (by simp; omega) bN.cell (tabs_below hT hB0)) belowK_t (belowK_b (by simp; omega)) (Below.refl _ _) (fun _ => rfl)
    (fun pre W => (∃ v, Boxed W wm.heap.size 110 v ∧ W.ownsRow w.heap.size 127 1 v (uN pre).length ((uN pre).map u16v) ∧ (∃ g m cap, v = .slice (some ⟨g, 0, none⟩) m cap)) ∧ Below w.heap.size w W)
    (fun _ _ _ => False)
    (OwnFrom.and (Own.from (holdsRow_own w.heap.size wm.heap.size 110 127 1 (fun pre => (uN pre).length) (fun pre => (uN pre).map u16v) (fun pre v => ∃ g m cap, v = .slice (some ⟨g, 0, none⟩) m cap)) _) (ownFrom_below (Nat.le_refl _) (by simp; omega)))
    (fun _ _ _ _ _ hs _ _ => hs)
    ⟨⟨_, bO.alloc _, (hrow0.alloc _).alloc _, ⟨_, _, _, rfl⟩⟩, hB0⟩
    (fun x => { tmps := #[.string s, undef, .slice none 0 0, .pointer (some ⟨wm.heap.size, 0, none⟩), undef, .int .i32 (x.1.2 : Nat), .string s, .int .i64 s.size, .slice (some ⟨w.heap.size, 0, none⟩) 0 s.size, .string s, .func (.func 99) #[] #[.pointer (some ⟨wm.heap.size + 1, 0, none⟩)], .int .i64 (x.1.1 : Nat), .int .i32 (x.1.2 : Nat), undef, undef, undef, undef, undef, undef, undef, undef, undef, undef, undef, undef, undef, undef], defers := [] }) ?assign ?body ?done ?stop
  case assign =>
    intro l x W K hK
    simp only [encs]
    gi_wp2
    exact hK
  case body =>
    rintro l pre x W ⟨⟨v, hv, hrow, g, m, cap, rfl⟩, hB⟩ hlt
    have hc := hv.cell
    have hf := hv.frozen
    have hul := uN_len pre
    have hcA : ∀ o, (W.alloc o).cell? ⟨wm.heap.size, 0, none⟩ = some (.slice (some ⟨g, 0, none⟩) m cap) := fun o => (hv.alloc o).cell
    have hx0 : (0 : Int) ≤ (x.1.2 : Int) := by omega
    have hx1 : (x.1.2 : Int) ≤ 1114111 := by have := x.2; omega
    gi_wp2_with fail
    have hmix : Tryz.prog.follows .mixedOrders = true := by kernel_rfl
    refine wpIn_mono (Q := fun e a' W' => e = .normal ∧ ∃ g' cap' tb, Boxed W' wm.heap.size 110 (.slice (some ⟨g', 0, none⟩) ((uN pre).length + 1) cap') ∧ W'.ownsRow w.heap.size 127 1 (.slice (some ⟨g', 0, none⟩) ((uN pre).length + 1) cap') ((uN pre).length + 1) ((uN pre).map u16v ++ [.int .u16 (fstU x.1.2 : Nat)]) ∧ KeepsOthers W W' ∧ Below w.heap.size W W' ∧
      a' = { tmps := #[.string s, undef, .slice none 0 0, .pointer (some ⟨wm.heap.size, 0, none⟩), undef, .int .i32 (x.1.2 : Nat), .string s, .int .i64 s.size, .slice (some ⟨w.heap.size, 0, none⟩) 0 s.size, .string s, .func (.func 99) #[] #[.pointer (some ⟨wm.heap.size + 1, 0, none⟩)], .int .i64 (x.1.1 : Nat), .int .i32 (x.1.2 : Nat), .slice (some ⟨g, 0, none⟩) m cap, .int .i32 (x.1.2 : Nat), .int .u16 (fstU x.1.2 : Nat), tb, .slice (some ⟨g', 0, none⟩) ((uN pre).length + 1) cap', undef, undef, undef, undef, undef, undef, undef, undef, undef], defers := [] }) ?cut ?rest
    case cut =>
      refine wpIn_region_any hmix ?_
      change wpAnyIn _ _ _ _ _ _ _ _ _ (World.drew _)
      refine wpAnyIn_ready (rs := [0, 1]) (by kernel_rfl) (by simp) ?_
      refine AllReadyIn.cons rfl (fun K hK => ?_) ?_
      · go_simp
        refine hK _ _ ?_
        clear hK K
        refine wpAnyIn_ready (rs := [1]) (by kernel_rfl) (by simp) ?_
        refine AllReadyIn.cons rfl (fun K hK => ?_) ?_
        · go_simp
          refine hK _ _ ?_
          clear hK K
          refine wpAnyIn_ready (rs := [2]) (by kernel_rfl) (by simp) ?_
          refine AllReadyIn.cons rfl (fun K hK => ?_) ?_
          · go_simp
            gi_wp2_with (refine ⟨trivial, ?_⟩; gi_at_call 90; refine (CallsIn.inRound l (callsIn_wide.2 (first_nat _ x.2 _))).mono ?_; rintro e w' ⟨rfl, rfl⟩)
            refine wpAnyIn_ready (rs := [3]) (by kernel_rfl) (by simp) ?_
            refine AllReadyIn.cons rfl (fun K hK => ?_) ?_
            · go_simp
              refine hK _ _ ?_
              clear hK K
              refine wpAnyIn_ready (rs := [4]) (by kernel_rfl) (by simp) ?_
              refine AllReadyIn.cons rfl (fun K hK => ?_) ?_
              · refine stepIn_append _ rfl _ _ 110 rfl w.heap.size 127 i0 (.int .u16 0) 1 2 Tryz.underlying110 hi hz0 hz1 hz2 rfl (by decide) _ _ _ rfl (hrow.alloc _) ⟨W.heap.size, 0, none⟩ 1 1 [.int .u16 (fstU x.1.2 : Nat)] rfl rfl (cell_one_new _ _ _) (by simp [Value.oneCell']) (by unfold maxLen; omega) (by omega) (by have := hB.size; simp; omega) ?_
                intro v' w1 hown' hgrow _
                obtain ⟨g', cap', rfl⟩ := ownsRow_succ hown'
                obtain ⟨hv1, hv2, hr2, hk2, hb2⟩ := hv.appended (tmp := .cells #[.int .u16 (fstU x.1.2 : Nat)] 127) (by decide) hrow hB.size hszm hown' ⟨hgrow.os, hgrow.tape, hgrow.output, hgrow.size, hgrow.block⟩
                have hc1 := hv1.cell
                have hf1 := hv1.frozen
                refine hK _ _ ?_
                clear hK K
                refine wpAnyIn_ready (rs := [5]) (by kernel_rfl) (by simp) ?_
                refine AllReadyIn.cons rfl (fun K hK => ?_) ?_
                · go_simp
                  refine hK _ _ ?_
                  clear hK K
                  refine wpAnyIn_done (by kernel_rfl) ?_ _
                  exact ⟨rfl, _, _, _, hv2, hr2, hk2, hb2, rfl⟩
                exact AllReadyIn.nil
              exact AllReadyIn.nil
            exact AllReadyIn.nil
          exact AllReadyIn.nil
        exact AllReadyIn.nil
      refine AllReadyIn.cons rfl (fun K hK => ?_) ?_
      · go_simp
        refine hK _ _ ?_
        clear hK K
        refine wpAnyIn_ready (rs := [0, 2]) (by kernel_rfl) (by simp) ?_
        refine AllReadyIn.cons rfl (fun K hK => ?_) ?_
        · go_simp
          refine hK _ _ ?_
          clear hK K
          refine wpAnyIn_ready (rs := [2]) (by kernel_rfl) (by simp) ?_
          refine AllReadyIn.cons rfl (fun K hK => ?_) ?_
          · go_simp
            gi_wp2_with (refine ⟨trivial, ?_⟩; gi_at_call 90; refine (CallsIn.inRound l (callsIn_wide.2 (first_nat _ x.2 _))).mono ?_; rintro e w' ⟨rfl, rfl⟩)
            refine wpAnyIn_ready (rs := [3]) (by kernel_rfl) (by simp) ?_
            refine AllReadyIn.cons rfl (fun K hK => ?_) ?_
            · go_simp
              refine hK _ _ ?_
              clear hK K
              refine wpAnyIn_ready (rs := [4]) (by kernel_rfl) (by simp) ?_
              refine AllReadyIn.cons rfl (fun K hK => ?_) ?_
              · refine stepIn_append _ rfl _ _ 110 rfl w.heap.size 127 i0 (.int .u16 0) 1 2 Tryz.underlying110 hi hz0 hz1 hz2 rfl (by decide) _ _ _ rfl (hrow.alloc _) ⟨W.heap.size, 0, none⟩ 1 1 [.int .u16 (fstU x.1.2 : Nat)] rfl rfl (cell_one_new _ _ _) (by simp [Value.oneCell']) (by unfold maxLen; omega) (by omega) (by have := hB.size; simp; omega) ?_
                intro v' w1 hown' hgrow _
                obtain ⟨g', cap', rfl⟩ := ownsRow_succ hown'
                obtain ⟨hv1, hv2, hr2, hk2, hb2⟩ := hv.appended (tmp := .cells #[.int .u16 (fstU x.1.2 : Nat)] 127) (by decide) hrow hB.size hszm hown' ⟨hgrow.os, hgrow.tape, hgrow.output, hgrow.size, hgrow.block⟩
                have hc1 := hv1.cell
                have hf1 := hv1.frozen
                refine hK _ _ ?_
                clear hK K
                refine wpAnyIn_ready (rs := [5]) (by kernel_rfl) (by simp) ?_
                refine AllReadyIn.cons rfl (fun K hK => ?_) ?_
                · go_simp
                  refine hK _ _ ?_
                  clear hK K
                  refine wpAnyIn_done (by kernel_rfl) ?_ _
                  exact ⟨rfl, _, _, _, hv2, hr2, hk2, hb2, rfl⟩
                exact AllReadyIn.nil
              exact AllReadyIn.nil
            exact AllReadyIn.nil
          exact AllReadyIn.nil
        refine AllReadyIn.cons rfl (fun K hK => ?_) ?_
        · go_simp
          gi_wp2_with (refine ⟨trivial, ?_⟩; gi_at_call 90; refine (CallsIn.inRound l (callsIn_wide.2 (first_nat _ x.2 _))).mono ?_; rintro e w' ⟨rfl, rfl⟩)
          refine wpAnyIn_ready (rs := [0, 3]) (by kernel_rfl) (by simp) ?_
          refine AllReadyIn.cons rfl (fun K hK => ?_) ?_
          · go_simp
            refine hK _ _ ?_
            clear hK K
            refine wpAnyIn_ready (rs := [3]) (by kernel_rfl) (by simp) ?_
            refine AllReadyIn.cons rfl (fun K hK => ?_) ?_
            · go_simp
              refine hK _ _ ?_
              clear hK K
              refine wpAnyIn_ready (rs := [4]) (by kernel_rfl) (by simp) ?_
              refine AllReadyIn.cons rfl (fun K hK => ?_) ?_
              · refine stepIn_append _ rfl _ _ 110 rfl w.heap.size 127 i0 (.int .u16 0) 1 2 Tryz.underlying110 hi hz0 hz1 hz2 rfl (by decide) _ _ _ rfl (hrow.alloc _) ⟨W.heap.size, 0, none⟩ 1 1 [.int .u16 (fstU x.1.2 : Nat)] rfl rfl (cell_one_new _ _ _) (by simp [Value.oneCell']) (by unfold maxLen; omega) (by omega) (by have := hB.size; simp; omega) ?_
                intro v' w1 hown' hgrow _
                obtain ⟨g', cap', rfl⟩ := ownsRow_succ hown'
                obtain ⟨hv1, hv2, hr2, hk2, hb2⟩ := hv.appended (tmp := .cells #[.int .u16 (fstU x.1.2 : Nat)] 127) (by decide) hrow hB.size hszm hown' ⟨hgrow.os, hgrow.tape, hgrow.output, hgrow.size, hgrow.block⟩
                have hc1 := hv1.cell
                have hf1 := hv1.frozen
                refine hK _ _ ?_
                clear hK K
                refine wpAnyIn_ready (rs := [5]) (by kernel_rfl) (by simp) ?_
                refine AllReadyIn.cons rfl (fun K hK => ?_) ?_
                · go_simp
                  refine hK _ _ ?_
                  clear hK K
                  refine wpAnyIn_done (by kernel_rfl) ?_ _
                  exact ⟨rfl, _, _, _, hv2, hr2, hk2, hb2, rfl⟩
                exact AllReadyIn.nil
              exact AllReadyIn.nil
            exact AllReadyIn.nil
          refine AllReadyIn.cons rfl (fun K hK => ?_) ?_
          · go_simp
            refine hK _ _ ?_
            clear hK K
            refine wpAnyIn_ready (rs := [0]) (by kernel_rfl) (by simp) ?_
            refine AllReadyIn.cons rfl (fun K hK => ?_) ?_
            · go_simp
              refine hK _ _ ?_
              clear hK K
              refine wpAnyIn_ready (rs := [4]) (by kernel_rfl) (by simp) ?_
              refine AllReadyIn.cons rfl (fun K hK => ?_) ?_
              · refine stepIn_append _ rfl _ _ 110 rfl w.heap.size 127 i0 (.int .u16 0) 1 2 Tryz.underlying110 hi hz0 hz1 hz2 rfl (by decide) _ _ _ rfl (hrow.alloc _) ⟨W.heap.size, 0, none⟩ 1 1 [.int .u16 (fstU x.1.2 : Nat)] rfl rfl (cell_one_new _ _ _) (by simp [Value.oneCell']) (by unfold maxLen; omega) (by omega) (by have := hB.size; simp; omega) ?_
                intro v' w1 hown' hgrow _
                obtain ⟨g', cap', rfl⟩ := ownsRow_succ hown'
                obtain ⟨hv1, hv2, hr2, hk2, hb2⟩ := hv.appended (tmp := .cells #[.int .u16 (fstU x.1.2 : Nat)] 127) (by decide) hrow hB.size hszm hown' ⟨hgrow.os, hgrow.tape, hgrow.output, hgrow.size, hgrow.block⟩
                have hc1 := hv1.cell
                have hf1 := hv1.frozen
                refine hK _ _ ?_
                clear hK K
                refine wpAnyIn_ready (rs := [5]) (by kernel_rfl) (by simp) ?_
                refine AllReadyIn.cons rfl (fun K hK => ?_) ?_
                · go_simp
                  refine hK _ _ ?_
                  clear hK K
                  refine wpAnyIn_done (by kernel_rfl) ?_ _
                  exact ⟨rfl, _, _, _, hv2, hr2, hk2, hb2, rfl⟩
                exact AllReadyIn.nil
              exact AllReadyIn.nil
            exact AllReadyIn.nil
          exact AllReadyIn.nil
        exact AllReadyIn.nil
      exact AllReadyIn.nil
    case rest =>
      rintro e a' W2 ⟨rfl, g2, cap2, tb, hv0, hr, hk, hb, rfl⟩
      clear hc hf hcA
      have hc := hv0.cell
      have hf := hv0.frozen
      have hcA : ∀ o, (W2.alloc o).cell? ⟨wm.heap.size, 0, none⟩ = some (.slice (some ⟨g2, 0, none⟩) ((uN pre).length + 1) cap2) := fun o => (hv0.alloc o).cell
      have hB2 : Below w.heap.size w W2 := hB.trans hb
      by_cases hbig : 65536 ≤ x.1.2
      · have hw2 : wid x.1.2 = 2 := by unfold wid; rw [if_pos hbig]
        gi_wp2_with (refine ⟨trivial, ?_⟩; gi_at_call 91; refine (CallsIn.inRound l (callsIn_wide.2 (width_nat _ _))).mono ?_; rintro e w' ⟨rfl, rfl⟩)
        refine wpIn_region_any hmix ?_
        change wpAnyIn _ _ _ _ _ _ _ _ _ (World.drew _)
        refine wpAnyIn_ready (rs := [0, 1]) (by kernel_rfl) (by simp) ?_
        refine AllReadyIn.cons rfl (fun K hK => ?_) ?_
        · go_simp
          refine hK _ _ ?_
          clear hK K
          refine wpAnyIn_ready (rs := [1]) (by kernel_rfl) (by simp) ?_
          refine AllReadyIn.cons rfl (fun K hK => ?_) ?_
          · go_simp
            refine hK _ _ ?_
            clear hK K
            refine wpAnyIn_ready (rs := [2]) (by kernel_rfl) (by simp) ?_
            refine AllReadyIn.cons rfl (fun K hK => ?_) ?_
            · go_simp
              gi_wp2_with (refine ⟨trivial, ?_⟩; gi_at_call 92; refine (CallsIn.inRound l (callsIn_wide.2 (second_nat _ hbig x.2 _))).mono ?_; rintro e w' ⟨rfl, rfl⟩)
              refine wpAnyIn_ready (rs := [3]) (by kernel_rfl) (by simp) ?_
              refine AllReadyIn.cons rfl (fun K hK => ?_) ?_
              · go_simp
                refine hK _ _ ?_
                clear hK K
                refine wpAnyIn_ready (rs := [4]) (by kernel_rfl) (by simp) ?_
                refine AllReadyIn.cons rfl (fun K hK => ?_) ?_
                · refine stepIn_append _ rfl _ _ 110 rfl w.heap.size 127 i0 (.int .u16 0) 1 2 Tryz.underlying110 hi hz0 hz1 hz2 rfl (by decide) _ _ _ rfl (hr.alloc _) ⟨w'.heap.size, 0, none⟩ 1 1 [.int .u16 (sndU x.1.2 : Nat)] rfl rfl (cell_one_new _ _ _) (by simp [Value.oneCell']) (by unfold maxLen; omega) (by omega) (by have := hB2.size; simp; omega) ?_
                  intro v' w1 hown' hgrow _
                  obtain ⟨g', cap', rfl⟩ := ownsRow_succ hown'
                  obtain ⟨hv1, hv2, hr2, hk2, hb2⟩ := hv0.appended (tmp := .cells #[.int .u16 (sndU x.1.2 : Nat)] 127) (by decide) hr hB2.size hszm hown' ⟨hgrow.os, hgrow.tape, hgrow.output, hgrow.size, hgrow.block⟩
                  have hc1 := hv1.cell
                  have hf1 := hv1.frozen
                  refine hK _ _ ?_
                  clear hK K
                  refine wpAnyIn_ready (rs := [5]) (by kernel_rfl) (by simp) ?_
                  refine AllReadyIn.cons rfl (fun K hK => ?_) ?_
                  · go_simp
                    refine hK _ _ ?_
                    clear hK K
                    refine wpAnyIn_done (by kernel_rfl) ?_ _
                    gi_wp2
                    refine ⟨(hk.trans hk2).from _, hb.trans hb2, ⟨⟨_, hv2, ?_, ⟨_, _, _, rfl⟩⟩, hB2.trans hb2⟩⟩
                    rw [uN_snoc, U_two hbig]
                    simpa [u16v] using hr2
                  exact AllReadyIn.nil
                exact AllReadyIn.nil
              exact AllReadyIn.nil
            exact AllReadyIn.nil
          exact AllReadyIn.nil
        refine AllReadyIn.cons rfl (fun K hK => ?_) ?_
        · go_simp
          refine hK _ _ ?_
          clear hK K
          refine wpAnyIn_ready (rs := [0, 2]) (by kernel_rfl) (by simp) ?_
          refine AllReadyIn.cons rfl (fun K hK => ?_) ?_
          · go_simp
            refine hK _ _ ?_
            clear hK K
            refine wpAnyIn_ready (rs := [2]) (by kernel_rfl) (by simp) ?_
            refine AllReadyIn.cons rfl (fun K hK => ?_) ?_
            · go_simp
              gi_wp2_with (refine ⟨trivial, ?_⟩; gi_at_call 92; refine (CallsIn.inRound l (callsIn_wide.2 (second_nat _ hbig x.2 _))).mono ?_; rintro e w' ⟨rfl, rfl⟩)
              refine wpAnyIn_ready (rs := [3]) (by kernel_rfl) (by simp) ?_
              refine AllReadyIn.cons rfl (fun K hK => ?_) ?_
              · go_simp
                refine hK _ _ ?_
                clear hK K
                refine wpAnyIn_ready (rs := [4]) (by kernel_rfl) (by simp) ?_
                refine AllReadyIn.cons rfl (fun K hK => ?_) ?_
                · refine stepIn_append _ rfl _ _ 110 rfl w.heap.size 127 i0 (.int .u16 0) 1 2 Tryz.underlying110 hi hz0 hz1 hz2 rfl (by decide) _ _ _ rfl (hr.alloc _) ⟨w'.heap.size, 0, none⟩ 1 1 [.int .u16 (sndU x.1.2 : Nat)] rfl rfl (cell_one_new _ _ _) (by simp [Value.oneCell']) (by unfold maxLen; omega) (by omega) (by have := hB2.size; simp; omega) ?_
                  intro v' w1 hown' hgrow _
                  obtain ⟨g', cap', rfl⟩ := ownsRow_succ hown'
                  obtain ⟨hv1, hv2, hr2, hk2, hb2⟩ := hv0.appended (tmp := .cells #[.int .u16 (sndU x.1.2 : Nat)] 127) (by decide) hr hB2.size hszm hown' ⟨hgrow.os, hgrow.tape, hgrow.output, hgrow.size, hgrow.block⟩
                  have hc1 := hv1.cell
                  have hf1 := hv1.frozen
                  refine hK _ _ ?_
                  clear hK K
                  refine wpAnyIn_ready (rs := [5]) (by kernel_rfl) (by simp) ?_
                  refine AllReadyIn.cons rfl (fun K hK => ?_) ?_
                  · go_simp
                    refine hK _ _ ?_
                    clear hK K
                    refine wpAnyIn_done (by kernel_rfl) ?_ _
                    gi_wp2
                    refine ⟨(hk.trans hk2).from _, hb.trans hb2, ⟨⟨_, hv2, ?_, ⟨_, _, _, rfl⟩⟩, hB2.trans hb2⟩⟩
                    rw [uN_snoc, U_two hbig]
                    simpa [u16v] using hr2
                  exact AllReadyIn.nil
                exact AllReadyIn.nil
              exact AllReadyIn.nil
            exact AllReadyIn.nil
          refine AllReadyIn.cons rfl (fun K hK => ?_) ?_
          · go_simp
            gi_wp2_with (refine ⟨trivial, ?_⟩; gi_at_call 92; refine (CallsIn.inRound l (callsIn_wide.2 (second_nat _ hbig x.2 _))).mono ?_; rintro e w' ⟨rfl, rfl⟩)
            refine wpAnyIn_ready (rs := [0, 3]) (by kernel_rfl) (by simp) ?_
            refine AllReadyIn.cons rfl (fun K hK => ?_) ?_
            · go_simp
              refine hK _ _ ?_
              clear hK K
              refine wpAnyIn_ready (rs := [3]) (by kernel_rfl) (by simp) ?_
              refine AllReadyIn.cons rfl (fun K hK => ?_) ?_
              · go_simp
                refine hK _ _ ?_
                clear hK K
                refine wpAnyIn_ready (rs := [4]) (by kernel_rfl) (by simp) ?_
                refine AllReadyIn.cons rfl (fun K hK => ?_) ?_
                · refine stepIn_append _ rfl _ _ 110 rfl w.heap.size 127 i0 (.int .u16 0) 1 2 Tryz.underlying110 hi hz0 hz1 hz2 rfl (by decide) _ _ _ rfl (hr.alloc _) ⟨w'.heap.size, 0, none⟩ 1 1 [.int .u16 (sndU x.1.2 : Nat)] rfl rfl (cell_one_new _ _ _) (by simp [Value.oneCell']) (by unfold maxLen; omega) (by omega) (by have := hB2.size; simp; omega) ?_
                  intro v' w1 hown' hgrow _
                  obtain ⟨g', cap', rfl⟩ := ownsRow_succ hown'
                  obtain ⟨hv1, hv2, hr2, hk2, hb2⟩ := hv0.appended (tmp := .cells #[.int .u16 (sndU x.1.2 : Nat)] 127) (by decide) hr hB2.size hszm hown' ⟨hgrow.os, hgrow.tape, hgrow.output, hgrow.size, hgrow.block⟩
                  have hc1 := hv1.cell
                  have hf1 := hv1.frozen
                  refine hK _ _ ?_
                  clear hK K
                  refine wpAnyIn_ready (rs := [5]) (by kernel_rfl) (by simp) ?_
                  refine AllReadyIn.cons rfl (fun K hK => ?_) ?_
                  · go_simp
                    refine hK _ _ ?_
                    clear hK K
                    refine wpAnyIn_done (by kernel_rfl) ?_ _
                    gi_wp2
                    refine ⟨(hk.trans hk2).from _, hb.trans hb2, ⟨⟨_, hv2, ?_, ⟨_, _, _, rfl⟩⟩, hB2.trans hb2⟩⟩
                    rw [uN_snoc, U_two hbig]
                    simpa [u16v] using hr2
                  exact AllReadyIn.nil
                exact AllReadyIn.nil
              exact AllReadyIn.nil
            refine AllReadyIn.cons rfl (fun K hK => ?_) ?_
            · go_simp
              refine hK _ _ ?_
              clear hK K
              refine wpAnyIn_ready (rs := [0]) (by kernel_rfl) (by simp) ?_
              refine AllReadyIn.cons rfl (fun K hK => ?_) ?_
              · go_simp
                refine hK _ _ ?_
                clear hK K
                refine wpAnyIn_ready (rs := [4]) (by kernel_rfl) (by simp) ?_
                refine AllReadyIn.cons rfl (fun K hK => ?_) ?_
                · refine stepIn_append _ rfl _ _ 110 rfl w.heap.size 127 i0 (.int .u16 0) 1 2 Tryz.underlying110 hi hz0 hz1 hz2 rfl (by decide) _ _ _ rfl (hr.alloc _) ⟨w'.heap.size, 0, none⟩ 1 1 [.int .u16 (sndU x.1.2 : Nat)] rfl rfl (cell_one_new _ _ _) (by simp [Value.oneCell']) (by unfold maxLen; omega) (by omega) (by have := hB2.size; simp; omega) ?_
                  intro v' w1 hown' hgrow _
                  obtain ⟨g', cap', rfl⟩ := ownsRow_succ hown'
                  obtain ⟨hv1, hv2, hr2, hk2, hb2⟩ := hv0.appended (tmp := .cells #[.int .u16 (sndU x.1.2 : Nat)] 127) (by decide) hr hB2.size hszm hown' ⟨hgrow.os, hgrow.tape, hgrow.output, hgrow.size, hgrow.block⟩
                  have hc1 := hv1.cell
                  have hf1 := hv1.frozen
                  refine hK _ _ ?_
                  clear hK K
                  refine wpAnyIn_ready (rs := [5]) (by kernel_rfl) (by simp) ?_
                  refine AllReadyIn.cons rfl (fun K hK => ?_) ?_
                  · go_simp
                    refine hK _ _ ?_
                    clear hK K
                    refine wpAnyIn_done (by kernel_rfl) ?_ _
                    gi_wp2
                    refine ⟨(hk.trans hk2).from _, hb.trans hb2, ⟨⟨_, hv2, ?_, ⟨_, _, _, rfl⟩⟩, hB2.trans hb2⟩⟩
                    rw [uN_snoc, U_two hbig]
                    simpa [u16v] using hr2
                  exact AllReadyIn.nil
                exact AllReadyIn.nil
              exact AllReadyIn.nil
            exact AllReadyIn.nil
          exact AllReadyIn.nil
        exact AllReadyIn.nil
      · have hw1 : wid x.1.2 = 1 := by unfold wid; rw [if_neg hbig]
        gi_wp2_with (refine ⟨trivial, ?_⟩; gi_at_call 91; refine (CallsIn.inRound l (callsIn_wide.2 (width_nat _ _))).mono ?_; rintro e w' ⟨rfl, rfl⟩)
        refine ⟨hk.from _, hb, ⟨⟨_, hv0, ?_, ⟨_, _, _, rfl⟩⟩, hB2⟩⟩
        rw [uN_snoc, U_one hbig]
        simpa [u16v] using hr
  case done =>
    rintro D ys W hD rfl ⟨⟨v, hv, hrow, g, m, cap, rfl⟩, hB⟩ hK
    have hc := hv.cell
    gi_wp2
    refine ⟨by simp, .inl ⟨_, _, rfl, run_takeDeferred hK, ?_⟩⟩
    refine ⟨_, results_tmp rfl _ _ _, _, rfl, ?_, hB.trans (belowK_b (w := w) (Nat.le_refl _) W D _ _ (by simp at hD; omega) hK rfl rfl)⟩
    rw [← uN_pts 0 cs]
    exact ownsRow_putObj hrow _ hK rfl
  case stop =>
    rintro D c pre W _ _ h _
    exact h.elim
end Go.Proofs.YtkpfikeggleenaaGreatDoor
