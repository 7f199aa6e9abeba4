import Derived.Test.YtakenhaieblikaaDoorWm
namespace Go.Proofs.YtakenhaieblikaaDoor
open Go.RowKit Go.Shelf
attribute [local go_sem] Oper.semAt_some

def inB (s : ByteArray) (i : Int) : Bool := decide (0 ≤ i) && decide (i < ((unS s).length : Int))
def atU (s : ByteArray) (i : Int) : Nat := if vS s && inB s i then (unS s).getD i.toNat 0 else 0
def atE (s : ByteArray) (i : Int) : Int := if vS s then (if inB s i then 0 else 7) else 10

/-- Does a point's place or the one behind it bear the unit i? -/
def hitB (i : Int) (x : PT) : Bool := (i == (x.1.1 : Int)) || ((i == wrap64 ((x.1.1 : Int) + 1)) && decide (65536 ≤ x.1.2))
theorem unitsN_cons (c : Nat) (r : List Nat) : unitsN (c :: r) = M.U c ++ unitsN r := by simp [unitsN]
theorem U_wid (c : Nat) : (M.U c).length = wid c := by
  unfold M.U wid
  by_cases h : 65536 ≤ c
  · rw [if_neg (by omega), if_pos h]; rfl
  · rw [if_pos (by omega), if_neg h]; rfl
theorem pts_get : ∀ (cs : List CP) (k : Nat) (x : PT), x ∈ pts k cs → k ≤ x.1.1 ∧ (unitsN (cs.map (·.1)))[x.1.1 - k]? = some (fstU x.1.2) ∧ (65536 ≤ x.1.2 → (unitsN (cs.map (·.1)))[x.1.1 + 1 - k]? = some (sndU x.1.2))
  | [], _, _, h => by simp [pts] at h
  | c :: r, k, x, h => by
    simp only [pts, List.mem_cons] at h
    rw [List.map_cons, unitsN_cons]
    rcases h with rfl | h
    · refine ⟨Nat.le_refl _, ?_, ?_⟩
      · simp only [Nat.sub_self]
        by_cases hb : 65536 ≤ c.1
        · rw [U_two hb]; rfl
        · rw [U_one hb]; rfl
      · intro hb
        rw [U_two hb]
        simp
    · obtain ⟨h1, h2, h3⟩ := pts_get r (k + wid c.1) x h
      have hw := U_wid c.1
      refine ⟨by omega, ?_, ?_⟩
      · rw [List.getElem?_append_right (by omega), hw]
        rw [show x.1.1 - k - wid c.1 = x.1.1 - (k + wid c.1) by omega]; exact h2
      · intro hb
        rw [List.getElem?_append_right (by omega), hw]
        rw [show x.1.1 + 1 - k - wid c.1 = x.1.1 + 1 - (k + wid c.1) by omega]; exact h3 hb
theorem pts_hit : ∀ (cs : List CP) (k i : Nat), i ≤ 4611686018427387904 → k ≤ i → i < k + (unitsN (cs.map (·.1))).length → ∃ x ∈ pts k cs, hitB (i : Int) x = true
  | [], k, i, _, h1, h2 => by simp [unitsN] at h2; omega
  | c :: r, k, i, hb0, h1, h2 => by
    rw [List.map_cons, unitsN_cons, List.length_append, U_wid] at h2
    by_cases h : i < k + wid c.1
    · refine ⟨⟨(k, c.1), c.2⟩, by simp [pts], ?_⟩
      unfold hitB wid at *
      by_cases hb : 65536 ≤ c.1
      · rw [if_pos hb] at h
        have hw : wrap64 ((k : Int) + 1) = (k : Int) + 1 := by unfold wrap64; omega
        simp only [hw]
        simp [hb]; omega
      · rw [if_neg hb] at h
        simp; omega
    · obtain ⟨x, hx, hh⟩ := pts_hit r (k + wid c.1) i hb0 (by omega) (by omega)
      exact ⟨x, by simp [pts, hx], hh⟩

set_option maxHeartbeats 1000000 in
set_option maxRecDepth 100000 in
theorem at_bad (s : ByteArray) (i : Int) (hv : vS s = false) (w : World) (hT : Lib.Utf8Tabs 0 1 w) :
    Calls Tryd.prog 24 #[.string s, .int .i64 i] w fun e w' => e = .returned (.tuple #[.int .u16 0, .int .i64 10]) ∧ Below w.heap.size w w' := by
  have hB0 : Below w.heap.size w (((w.alloc (.cells #[.int .i64 i] 3)).alloc (.cells #[.int .u16 0] 38)).alloc (.cells #[.int .i64 0] 22)) := (((Below.refl _ w).alloc (Nat.le_refl _) _).alloc (by simp) _).alloc (by simp; omega) _
  have hva := valid_any s _ (tabs_below hT hB0)
  unfold vS at hv
  rw [hv] at hva
  have HV := hide hva; clear hva hv
  refine (callsIn_wide (n := 5)).1 ?_
  refine callsIn_of_wp_marks Tryd.func24 rfl trivial ?_ rfl
  simp only [Tryd.ntmps24, List.size_toArray, List.length_cons, List.length_nil, Nat.reduceAdd, Nat.reduceSub, Array.replicate_succ, Array.replicate_zero, List.push_toArray, List.append_toArray, List.nil_append, List.cons_append]
  gi_wp2_with fail
  refine ⟨trivial, (callsIn_wide.2 (unhide HV)).mono ?_⟩
  rintro e w1 ⟨rfl, hb⟩
  have b1 := Boxed.new w 3 (.int .i64 i)
  have b2 := Boxed.new (w.alloc (.cells #[.int .i64 i] 3)) 38 (.int .u16 0)
  have b3 := Boxed.new ((w.alloc (.cells #[.int .i64 i] 3)).alloc (.cells #[.int .u16 0] 38)) 22 (.int .i64 0)
  simp only [World.size_alloc] at b2 b3
  have k2 : Boxed w1 (w.heap.size + 1) 38 (.int .u16 0) := ((b2.alloc _).kept (grown_of_below hb) (by simp))
  have k3 : Boxed w1 (w.heap.size + 1 + 1) 22 (.int .i64 0) := (b3.kept (grown_of_below hb) (by simp))
  have c2 := k2.cell; have f2 := k2.frozen; have c3 := k3.cell; have f3 := k3.frozen
  have hB1 := hB0.trans (hb.mono hB0.size)
  gi_wp2
  have q2 := k2.set (.int .u16 0)
  have q3 : Boxed (w1.setCell ⟨w.heap.size + 1, 0, none⟩ (.int .u16 0)) (w.heap.size + 1 + 1) 22 (.int .i64 0) := k3.other (by omega) _
  have r3 := q3.set (.int .i64 10)
  have r2 : Boxed ((w1.setCell ⟨w.heap.size + 1, 0, none⟩ (.int .u16 0)).setCell ⟨w.heap.size + 1 + 1, 0, none⟩ (.int .i64 10)) (w.heap.size + 1) 38 (.int .u16 0) := q2.other (by omega) _
  have g2 := r2.cell; have g3 := r3.cell
  refine ⟨.tuple #[.int .u16 0, .int .i64 10], ?_, rfl, (hB1.setCell (p := ⟨w.heap.size + 1, 0, none⟩) (by simp) _).setCell (p := ⟨w.heap.size + 1 + 1, 0, none⟩) (by simp; omega) _⟩
  simp [results, Tryd.f24, go_sem, g2, g3]

theorem box_kept {X Y : World} {row : Option Nat} {B : Nat} {t : TypeId} {v : Value} (hs : Boxed X B t v) (hg : X.grownBy Y row) (hr : ∀ r, row = some r → ∃ o : Obj, X.heap[r]? = some o ∧ o.isCells = false) : Boxed Y B t v :=
  boxed_own B t (fun _ : Unit => v) () X Y row hs hg hr
set_option maxHeartbeats 2000000 in
set_option maxRecDepth 100000 in
theorem at_good (s : ByteArray) (i : Int) (cs : List CP) (hs : nums s = bytes cs) (hv : vS s = true) (hsz : s.size ≤ 1099511627776) (w : World) (hT : Lib.Utf8Tabs 0 1 w) :
    Calls Tryd.prog 24 #[.string s, .int .i64 i] w fun e w' => ∃ u er : Int, e = .returned (.tuple #[.int .u16 u, .int .i64 er]) ∧ Below w.heap.size w w' ∧
      ((∃ x ∈ pts 0 cs, er = 0 ∧ ((i = (x.1.1 : Int) ∧ u = (fstU x.1.2 : Nat)) ∨ (i = wrap64 ((x.1.1 : Int) + 1) ∧ 65536 ≤ x.1.2 ∧ u = (sndU x.1.2 : Nat)))) ∨ (u = 0 ∧ er = 7 ∧ ∀ x ∈ pts 0 cs, hitB i x = false)) := by
  have hB0 : Below w.heap.size w (((w.alloc (.cells #[.int .i64 i] 3)).alloc (.cells #[.int .u16 0] 38)).alloc (.cells #[.int .i64 0] 22)) := (((Below.refl _ w).alloc (Nat.le_refl _) _).alloc (by simp) _).alloc (by simp; omega) _
  have hva := valid_any s _ (tabs_below hT hB0)
  unfold vS at hv
  rw [hv] at hva
  have HV := hide hva; clear hva hv
  have HS := hide hs; clear hs
  have hcs : cs.length ≤ s.size := by rw [← nums_len, unhide HS]; exact bytes_len cs
  refine (callsIn_wide (n := 5)).1 ?_
  refine callsIn_of_wp_marks Tryd.func24 rfl trivial ?_ rfl
  simp only [Tryd.ntmps24, List.size_toArray, List.length_cons, List.length_nil, Nat.reduceAdd, Nat.reduceSub, Array.replicate_succ, Array.replicate_zero, List.push_toArray, List.append_toArray, List.nil_append, List.cons_append]
  gi_wp2_with fail
  refine ⟨trivial, (callsIn_wide.2 (unhide HV)).mono ?_⟩
  rintro e w1 ⟨rfl, hb⟩
  have b1 := Boxed.new w 3 (.int .i64 i)
  have b2 := Boxed.new (w.alloc (.cells #[.int .i64 i] 3)) 38 (.int .u16 0)
  have b3 := Boxed.new ((w.alloc (.cells #[.int .i64 i] 3)).alloc (.cells #[.int .u16 0] 38)) 22 (.int .i64 0)
  simp only [World.size_alloc] at b2 b3
  have k1 : Boxed w1 w.heap.size 3 (.int .i64 i) := (((b1.alloc _).alloc _).kept (grown_of_below hb) (by simp))
  have k2 : Boxed w1 (w.heap.size + 1) 38 (.int .u16 0) := ((b2.alloc _).kept (grown_of_below hb) (by simp))
  have k3 : Boxed w1 (w.heap.size + 1 + 1) 22 (.int .i64 0) := (b3.kept (grown_of_below hb) (by simp))
  have hB1 := hB0.trans (hb.mono hB0.size)
  have hs1 : w.heap.size + 1 + 1 < w1.heap.size := k3.lt
  gi_wp2_with fail
  refine ⟨trivial, (callsIn_wide.2 (walk_any s _)).mono ?_⟩
  rintro e w' ⟨rfl, rfl⟩
  gi_wp2_with fail
  have h2w := tabs_size hT
  have bN := Boxed.new w1 9 (.string s)
  have hB2 : Below w.heap.size w (w1.alloc (.cells #[.string s] 9)) := hB1.alloc hB1.size _
  refine wpIn_rangeFunc_ownG rfl (by omega) (gf := 64) (lb := #[.pointer (some ⟨w1.heap.size, 0, none⟩)]) rfl trivial (enters_of Tryd.func64 (by kernel_rfl) rfl)
    (walk_stops 4 (by omega) w1.heap.size w.heap.size s cs (unhide HS) (by omega) _ (by simp) h2w (by simp; omega) bN.cell (tabs_below hT hB2)) belowK_t (belowK_b (by simp; omega)) (Below.refl _ _) (fun _ => rfl)
    (fun pre W => ((∀ y ∈ pre, hitB i y = false) ∧ Boxed W w.heap.size 3 (.int .i64 i) ∧ Boxed W (w.heap.size + 1) 38 (.int .u16 0) ∧ Boxed W (w.heap.size + 1 + 1) 22 (.int .i64 0)) ∧ Below w.heap.size w W)
    (fun c pre W => (c = .ret ∧ ∃ u : Int, (∃ x ∈ pre, (i = (x.1.1 : Int) ∧ u = (fstU x.1.2 : Nat)) ∨ (i = wrap64 ((x.1.1 : Int) + 1) ∧ 65536 ≤ x.1.2 ∧ u = (sndU x.1.2 : Nat))) ∧ Boxed W (w.heap.size + 1) 38 (.int .u16 u) ∧ Boxed W (w.heap.size + 1 + 1) 22 (.int .i64 0)) ∧ Below w.heap.size w W)
    (OwnFrom.and (Own.from (fun s A B row hs hg hr => ⟨hs.1, box_kept hs.2.1 hg hr, box_kept hs.2.2.1 hg hr, box_kept hs.2.2.2 hg hr⟩) _) (ownFrom_below (Nat.le_refl _) (by simp; omega)))
    (fun c => OwnFrom.and (Own.from (fun s A B row hs hg hr => ⟨hs.1, hs.2.imp fun u hu => ⟨hu.1, box_kept hu.2.1 hg hr, box_kept hu.2.2 hg hr⟩⟩) _) (ownFrom_below (Nat.le_refl _) (by simp; omega)))
    ⟨⟨by simp, k1.alloc _, k2.alloc _, k3.alloc _⟩, hB2⟩
    (fun x => { tmps := #[.string s, .int .i64 i, undef, .pointer (some ⟨w.heap.size, 0, none⟩), .pointer (some ⟨w.heap.size + 1, 0, none⟩), .pointer (some ⟨w.heap.size + 1 + 1, 0, none⟩), .int .i64 (x.1.1 : Nat), .int .i32 (x.1.2 : Nat), .string s, .bool true, .bool false, .string s, .func (.func 64) #[] #[.pointer (some ⟨w1.heap.size, 0, none⟩)], .int .i64 (x.1.1 : Nat), .int .i32 (x.1.2 : Nat), undef, undef, undef, undef, undef, undef, undef, undef, undef, undef, undef, undef, undef, undef, undef, undef, undef, undef], defers := [] }) ?assign ?body ?done ?stop
  case assign =>
    intro l x W K hK
    simp only [encs]
    gi_wp2
    exact hK
  case body =>
    rintro l pre x W ⟨⟨hp, x1, x2, x3⟩, hB⟩ hlt
    have c1 := x1.cell; have c2 := x2.cell; have f2 := x2.frozen; have c3 := x3.cell; have f3 := x3.frozen
    by_cases e1 : i = (x.1.1 : Int)
    · have e1' : (i == (x.1.1 : Int)) = true := by rw [beq_iff_eq]; exact e1
      have E1 := hide e1; clear e1
      gi_wp2_with (refine ⟨trivial, ?_⟩; gi_at_call 53; refine (CallsIn.inRound l (callsIn_wide.2 (first_nat _ x.2 _))).mono ?_; rintro e w' ⟨rfl, rfl⟩)
      have q2 := x2.set (.int .u16 (fstU x.1.2 : Nat))
      have q3 := x3.other (B' := w.heap.size + 1) (by omega) (.int .u16 (fstU x.1.2 : Nat))
      exact ⟨((KeepsOthers.setCell _ _ _).trans (KeepsOthers.setCell _ _ _)).from _, ⟨rfl, _, ⟨x, by simp, .inl ⟨unhide E1, rfl⟩⟩, q2.other (by omega) _, q3.set _⟩, (hB.setCell (p := ⟨w.heap.size + 1, 0, none⟩) (by simp) _).setCell (p := ⟨w.heap.size + 1 + 1, 0, none⟩) (by simp; omega) _⟩
    · have e1' : (i == (x.1.1 : Int)) = false := by rw [beq_eq_false_iff_ne]; exact e1
      by_cases e2 : i = wrap64 ((x.1.1 : Int) + 1)
      · have e2' : (i == wrap64 ((x.1.1 : Int) + 1)) = true := by rw [beq_iff_eq]; exact e2
        by_cases hbig : 65536 ≤ x.1.2
        · have hw2 : wid x.1.2 = 2 := by unfold wid; rw [if_pos hbig]
          have E1 := hide e1; have E2 := hide e2; clear e1 e2
          gi_wp2_with (refine ⟨trivial, ?_⟩; first
            | (gi_at_call 43; refine (CallsIn.inRound l (callsIn_wide.2 (width_nat _ _))).mono ?_; rintro e w' ⟨rfl, rfl⟩)
            | (gi_at_call 54; refine (CallsIn.inRound l (callsIn_wide.2 (second_nat _ hbig x.2 _))).mono ?_; rintro e w' ⟨rfl, rfl⟩))
          have q2 := x2.set (.int .u16 (sndU x.1.2 : Nat))
          have q3 := x3.other (B' := w.heap.size + 1) (by omega) (.int .u16 (sndU x.1.2 : Nat))
          exact ⟨((KeepsOthers.setCell _ _ _).trans (KeepsOthers.setCell _ _ _)).from _, ⟨rfl, _, ⟨x, by simp, .inr ⟨unhide E2, hbig, rfl⟩⟩, q2.other (by omega) _, q3.set _⟩, (hB.setCell (p := ⟨w.heap.size + 1, 0, none⟩) (by simp) _).setCell (p := ⟨w.heap.size + 1 + 1, 0, none⟩) (by simp; omega) _⟩
        · have hw1 : wid x.1.2 = 1 := by unfold wid; rw [if_neg hbig]
          have E1 := hide e1; have E2 := hide e2; clear e1 e2
          gi_wp2_with (refine ⟨trivial, ?_⟩; gi_at_call 43; refine (CallsIn.inRound l (callsIn_wide.2 (width_nat _ _))).mono ?_; rintro e w' ⟨rfl, rfl⟩)
          exact ⟨KeepsFrom.refl _ _, Below.refl _ _, ⟨fun y hy => by
            rw [List.mem_append] at hy
            rcases hy with hy | hy
            · exact hp y hy
            · simp at hy; subst hy; simp [hitB, e1', hbig], x1, x2, x3⟩, hB⟩
      · have e2' : (i == wrap64 ((x.1.1 : Int) + 1)) = false := by rw [beq_eq_false_iff_ne]; exact e2
        have E1 := hide e1; have E2 := hide e2; clear e1 e2
        gi_wp2
        refine ⟨trivial, ?_⟩
        gi_wp2
        exact ⟨KeepsFrom.refl _ _, Below.refl _ _, ⟨fun y hy => by
          rw [List.mem_append] at hy
          rcases hy with hy | hy
          · exact hp y hy
          · simp at hy; subst hy; simp [hitB, e1', e2'], x1, x2, x3⟩, hB⟩
  case done =>
    rintro D ys W hD rfl ⟨⟨hp, x1, x2, x3⟩, hB⟩ hK
    have c1 := x1.cell; have c2 := x2.cell; have f2 := x2.frozen; have c3 := x3.cell; have f3 := x3.frozen
    gi_wp2
    have hK1 := (KeepsOthers.setCell W ⟨w.heap.size + 1, 0, none⟩ (.int .u16 0)).same D _ hK rfl
    have hK2 := (KeepsOthers.setCell (W.setCell ⟨w.heap.size + 1, 0, none⟩ (.int .u16 0)) ⟨w.heap.size + 1 + 1, 0, none⟩ (.int .i64 7)).same D _ hK1 rfl
    refine ⟨by simp, .inl ⟨_, _, rfl, run_takeDeferred hK2, ?_⟩⟩
    have q2 := x2.set (.int .u16 0)
    have q3 := (x3.other (B' := w.heap.size + 1) (by omega) (.int .u16 0)).set (.int .i64 7)
    have r2 := q2.other (B' := w.heap.size + 1 + 1) (by omega) (.int .i64 7)
    have g2 := cell_kept r2.cell (grownBy_putObj' _ D (.deferred none)) (fun r e => by cases e; exact ⟨_, hK2, rfl⟩)
    have g3 := cell_kept q3.cell (grownBy_putObj' _ D (.deferred none)) (fun r e => by cases e; exact ⟨_, hK2, rfl⟩)
    refine ⟨.tuple #[.int .u16 0, .int .i64 7], ?_, 0, 7, rfl, ((hB.setCell (p := ⟨w.heap.size + 1, 0, none⟩) (by simp) _).setCell (p := ⟨w.heap.size + 1 + 1, 0, none⟩) (by simp; omega) _).trans (belowK_b (w := w) (Nat.le_refl _) _ D _ _ (by simp at hD; omega) hK2 rfl rfl), .inr ⟨rfl, rfl, hp⟩⟩
    simp [results, Tryd.f24, go_sem, g2, g3]
  case stop =>
    rintro D c pre W hD hpre ⟨⟨rfl, u, hu, x2, x3⟩, hB⟩ hK
    gi_wp2
    refine ⟨by simp, .inl ⟨_, _, rfl, run_takeDeferred hK, ?_⟩⟩
    have g2 := cell_kept x2.cell (grownBy_putObj' _ D (.deferred none)) (fun r e => by cases e; exact ⟨_, hK, rfl⟩)
    have g3 := cell_kept x3.cell (grownBy_putObj' _ D (.deferred none)) (fun r e => by cases e; exact ⟨_, hK, rfl⟩)
    obtain ⟨x, hx, hx2⟩ := hu
    refine ⟨.tuple #[.int .u16 u, .int .i64 0], ?_, u, 0, rfl, hB.trans (belowK_b (w := w) (Nat.le_refl _) W D _ _ (by simp at hD; omega) hK rfl rfl), .inl ⟨x, hpre.subset hx, rfl, hx2⟩⟩
    simp [results, Tryd.f24, go_sem, g2, g3]
end Go.Proofs.YtakenhaieblikaaDoor
