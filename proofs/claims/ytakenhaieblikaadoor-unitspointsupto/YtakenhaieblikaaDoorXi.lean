import Derived.Test.YtakenhaieblikaaDoorXh
import Derived.LoopNIn
namespace Go.Proofs.YtakenhaieblikaaDoor
open Go.RowKit Go.Shelf
attribute [local go_sem] Oper.semAt_some eql_nil1

/-- Row, as what both cells of its points read. -/
theorem rowB_any (v : Value) (s : ByteArray) (hsz : s.size ≤ 1099511627776) (w : World) (hR : Reads w v (unS s)) :
    Calls Tryd.prog 34 #[v] w fun e w' => ∃ A cap, e = .returned (.slice A (rowP 0 (unS s)).length cap) ∧ (∀ i (hi : i < (rowP 0 (unS s)).length), ∃ g, A = some ⟨g, 0, none⟩ ∧ w.heap.size ≤ g ∧ g < w'.heap.size ∧ w'.cell? ⟨g, i * 2, none⟩ = some (.int .i64 ((rowP 0 (unS s))[i].1 : Nat)) ∧ w'.cell? ⟨g, i * 2 + 1, none⟩ = some (.int .i64 ((rowP 0 (unS s))[i].2 : Nat))) ∧ Below w.heap.size w w' := by
  have hul := unS_len s
  refine (row_any v (unS s) (unS_small s) (by omega) w hR).mono ?_
  rintro e w1 ⟨vp, rfl, hown, hb⟩
  generalize rowP 0 (unS s) = rp at *
  rcases hown.2 with ⟨rfl, h0⟩ | ⟨g, cap, cur, rfl, hBg, hgb, hnc, hcm, hcs, htk⟩
  · exact ⟨none, 0, by rw [h0], fun i hi => by omega, hb⟩
  · refine ⟨_, _, rfl, fun i hi => ⟨g, rfl, hBg, (Array.getElem?_eq_some_iff.1 hgb).1, ?_, ?_⟩, hb⟩
    · rw [hown.cellAt (i * 2) (by omega), (ptCells_get rp i hi).2]; rfl
    · rw [hown.cellAt (i * 2 + 1) (by omega), (ptCells_get rp i hi).1]; rfl

theorem rowP_eq (s : ByteArray) (hv : vS s = true) : ∃ cs : List CP, nums s = bytes cs ∧ rowP 0 (unS s) = (pts 0 cs).map (·.1) := by
  obtain ⟨cs, h1, h2, h3⟩ := valid_cs s hv
  exact ⟨cs, h1, by rw [h2]; exact rowP_pts cs 0 false h3.2.2⟩
theorem rowL_any (v : Value) (s : ByteArray) (cs : List CP) (hpp : rowP 0 (unS s) = (pts 0 cs).map (·.1)) (hsz : s.size ≤ 1099511627776) (w : World) (hR : Reads w v (unS s)) :
    Calls Tryd.prog 34 #[v] w fun e w' => ∃ A cap, e = .returned (.slice A (pts 0 cs).length cap) ∧ (∀ i (hi : i < (pts 0 cs).length), ∃ g, A = some ⟨g, 0, none⟩ ∧ w.heap.size ≤ g ∧ g < w'.heap.size ∧ w'.cell? ⟨g, i * 2, none⟩ = some (.int .i64 ((pts 0 cs)[i].1.1 : Nat)) ∧ w'.cell? ⟨g, i * 2 + 1, none⟩ = some (.int .i64 ((pts 0 cs)[i].1.2 : Nat))) ∧ Below w.heap.size w w' := by
  refine (rowB_any v s hsz w hR).mono ?_
  rintro e w1 ⟨A, cap, rfl, hcl, hb⟩
  refine ⟨A, cap, by rw [hpp, List.length_map], fun i hi => ?_, hb⟩
  obtain ⟨g, e, h1, h2, h3, h4⟩ := hcl i (by rw [hpp, List.length_map]; exact hi)
  refine ⟨g, e, h1, h2, ?_, ?_⟩
  · rw [h3]; simp [hpp]
  · rw [h4]; simp [hpp]
theorem pts_length : ∀ (cs : List CP) (k : Nat), (pts k cs).length = cs.length
  | [], _ => rfl
  | c :: r, k => by simp [pts, pts_length r]
theorem next_iff {PL pre : List PT} (hp : pre <+: PL) (hl : pre.length < PL.length) (x : PT) : pre ++ [x] <+: PL ↔ x.1.1 = PL[pre.length].1.1 ∧ x.1.2 = PL[pre.length].1.2 := by
  obtain ⟨t, rfl⟩ := hp
  have ht : t ≠ [] := fun e => by rw [e] at hl; simp at hl
  obtain ⟨y, r, rfl⟩ := List.exists_cons_of_ne_nil ht
  have e : (pre ++ y :: r)[pre.length] = y := by simp
  rw [e, List.prefix_append_right_inj]
  constructor
  · intro h
    obtain ⟨q, hq⟩ := h
    simp at hq
    rw [hq.1]; exact ⟨rfl, rfl⟩
  · rintro ⟨h1, h2⟩
    have : x = y := Subtype.ext (Prod.ext h1 h2)
    rw [this]
    exact ⟨r, rfl⟩
set_option maxHeartbeats 4000000 in
set_option maxRecDepth 100000 in
theorem points_law_good (s : ByteArray) (stop inner : Int) (hsz : s.size ≤ 1099511627776) (hv : vS s = true) (w : World) (hT : Lib.Utf8Tabs 0 1 w) : Calls Tryd.prog 7 #[.string s, .int .i64 stop, .int .i64 inner] w fun e w' => e = .returned (.bool true) ∧ Below w.heap.size w w' := by
  obtain ⟨cs, hcs, hpp⟩ := rowP_eq s hv
  have HCS := hide hcs
  have HRL := hide (fun v w hR => rowL_any v s cs hpp hsz w hR)
  clear hcs hpp
  have hPLl : (pts 0 cs).length ≤ 1099511627776 := by
    have h1 : cs.length ≤ s.size := by rw [← nums_len, unhide HCS]; exact bytes_len cs
    rw [pts_length]; omega
  generalize hPL : pts 0 cs = PL at *
  have HPL := hide hPL; clear hPL
  have hE : erS s = 0 := by unfold erS; rw [hv]; rfl
  have b1 := Boxed.new w 3 (.int .i64 stop)
  have b2 := Boxed.new (w.alloc (.cells #[.int .i64 stop] 3)) 3 (.int .i64 inner)
  have b3 := Boxed.new ((w.alloc (.cells #[.int .i64 stop] 3)).alloc (.cells #[.int .i64 inner] 3)) 4 (.bool false)
  have b4 := Boxed.new (((w.alloc (.cells #[.int .i64 stop] 3)).alloc (.cells #[.int .i64 inner] 3)).alloc (.cells #[.bool false] 4)) 60 (.slice none 0 0)
  simp only [World.size_alloc] at b2 b3 b4
  have hB0 : Below w.heap.size w ((((w.alloc (.cells #[.int .i64 stop] 3)).alloc (.cells #[.int .i64 inner] 3)).alloc (.cells #[.bool false] 4)).alloc (.cells #[.slice none 0 0] 60)) := ((((Below.refl _ w).alloc (Nat.le_refl _) _).alloc (by simp) _).alloc (by simp; omega) _).alloc (by simp; omega) _
  replace b1 := ((b1.alloc (.cells #[.int .i64 inner] 3)).alloc (.cells #[.bool false] 4)).alloc (.cells #[.slice none 0 0] 60)
  replace b2 := (b2.alloc (.cells #[.bool false] 4)).alloc (.cells #[.slice none 0 0] 60)
  replace b3 := b3.alloc (.cells #[.slice none 0 0] 60)
  refine (callsIn_wide (n := 9)).1 ?_
  refine callsIn_of_wp_marks Tryd.func7 rfl trivial ?_ rfl
  simp only [Tryd.ntmps7, List.size_toArray, List.length_cons, List.length_nil, Nat.reduceAdd, Nat.reduceSub, Array.replicate_succ, Array.replicate_zero, List.push_toArray, List.append_toArray, List.nil_append, List.cons_append]
  gi_wp2_with fail
  generalize ((((w.alloc (.cells #[.int .i64 stop] 3)).alloc (.cells #[.int .i64 inner] 3)).alloc (.cells #[.bool false] 4)).alloc (.cells #[.slice none 0 0] 60)) = w1 at *
  refine ⟨trivial, (callsIn_wide.2 (refUnits_any s hsz w1)).mono ?_⟩
  rintro e w2 ⟨vu, rfl, hown, hb2⟩
  rw [hE]
  have hR : Reads w2 vu (unS s) := reads_own hown
  gi_wp2_with fail
  refine ⟨trivial, (callsIn_wide.2 (unhide HRL vu w2 hR)).mono ?_⟩
  rintro e w3 ⟨A, cap, rfl, hcl, hb3⟩
  have hB1 := hB0.trans (hb2.mono hB0.size)
  have hB3 := hB1.trans (hb3.mono hB1.size)
  have k1 := (b1.kept (grown_of_below hb2) (by simp)).kept (grown_of_below hb3) (by simp)
  have k2 := (b2.kept (grown_of_below hb2) (by simp)).kept (grown_of_below hb3) (by simp)
  have k3 := (b3.kept (grown_of_below hb2) (by simp)).kept (grown_of_below hb3) (by simp)
  have k4 := (b4.kept (grown_of_below hb2) (by simp)).kept (grown_of_below hb3) (by simp)
  have c4 := k4.cell; have f4 := k4.frozen
  gi_wp2_with fail
  have hB4 : Below w.heap.size w (w3.setCell ⟨w.heap.size + 1 + 1 + 1, 0, none⟩ (.slice A PL.length cap)) := hB3.setCell (p := ⟨w.heap.size + 1 + 1 + 1, 0, none⟩) (by simp; omega) _
  have q4 := k4.set (.slice A PL.length cap)
  have q1 := k1.other (B' := w.heap.size + 1 + 1 + 1) (by omega) (.slice A PL.length cap)
  have q2 := k2.other (B' := w.heap.size + 1 + 1 + 1) (by omega) (.slice A PL.length cap)
  have q3 := k3.other (B' := w.heap.size + 1 + 1 + 1) (by omega) (.slice A PL.length cap)
  have hsz4 : w.heap.size + 1 + 1 + 1 < w2.heap.size := Nat.lt_of_lt_of_le b4.lt hb2.size
  have hcl4 : ∀ i (hi : i < PL.length), ∃ g, A = some ⟨g, 0, none⟩ ∧ g < (w3.setCell ⟨w.heap.size + 1 + 1 + 1, 0, none⟩ (.slice A PL.length cap)).heap.size ∧ (w3.setCell ⟨w.heap.size + 1 + 1 + 1, 0, none⟩ (.slice A PL.length cap)).cell? ⟨g, i * 2, none⟩ = some (.int .i64 (PL[i].1.1 : Nat)) ∧ (w3.setCell ⟨w.heap.size + 1 + 1 + 1, 0, none⟩ (.slice A PL.length cap)).cell? ⟨g, i * 2 + 1, none⟩ = some (.int .i64 (PL[i].1.2 : Nat)) := fun i hi => by
    obtain ⟨g, e, h1, h2, h3, h4⟩ := hcl i hi
    refine ⟨g, e, by simpa using h2, ?_, ?_⟩
    · rw [World.cell?_setCell_other _ _ _ _ (by simp only [ne_eq, Addr.mk.injEq, not_and]; omega)]; exact h3
    · rw [World.cell?_setCell_other _ _ _ _ (by simp only [ne_eq, Addr.mk.injEq, not_and]; omega)]; exact h4
  clear hcl k1 k2 k3 k4 c4 f4 hB3 hB1 hb3 hR hown hb2 b1 b2 b3 b4 hB0
  generalize (w3.setCell ⟨w.heap.size + 1 + 1 + 1, 0, none⟩ (.slice A PL.length cap)) = w4 at *
  clear w3 w2 w1 hsz4
  refine ⟨trivial, (callsIn_wide.2 (points_good s hv w4 (tabs_below hT hB4))).mono ?_⟩
  rintro e w6 ⟨w5, rfl, rfl, hb5⟩
  gi_wp2_with fail
  have hB5 := hB4.trans (hb5.mono hB4.size)
  have e1 := ((q1.kept (grown_of_below hb5) (by simp)).alloc (.cells #[.string s] 9)).alloc (.cells #[.func (.func 64) #[] #[.pointer (some ⟨w5.heap.size, 0, none⟩)]] 63)
  have e2 := ((q2.kept (grown_of_below hb5) (by simp)).alloc (.cells #[.string s] 9)).alloc (.cells #[.func (.func 64) #[] #[.pointer (some ⟨w5.heap.size, 0, none⟩)]] 63)
  have e3 := ((q3.kept (grown_of_below hb5) (by simp)).alloc (.cells #[.string s] 9)).alloc (.cells #[.func (.func 64) #[] #[.pointer (some ⟨w5.heap.size, 0, none⟩)]] 63)
  have e4 := ((q4.kept (grown_of_below hb5) (by simp)).alloc (.cells #[.string s] 9)).alloc (.cells #[.func (.func 64) #[] #[.pointer (some ⟨w5.heap.size, 0, none⟩)]] 63)
  have e5 := (Boxed.new w5 9 (.string s)).alloc (.cells #[.func (.func 64) #[] #[.pointer (some ⟨w5.heap.size, 0, none⟩)]] 63)
  have e6 := Boxed.new (w5.alloc (.cells #[.string s] 9)) 63 (.func (.func 64) #[] #[.pointer (some ⟨w5.heap.size, 0, none⟩)])
  have hB6 : Below w.heap.size w ((w5.alloc (.cells #[.string s] 9)).alloc (.cells #[.func (.func 64) #[] #[.pointer (some ⟨w5.heap.size, 0, none⟩)]] 63)) := (hB5.alloc hB5.size _).alloc (by simp; have := hB5.size; omega) _
  have hcl6 : ∀ i (hi : i < PL.length), ∃ g, A = some ⟨g, 0, none⟩ ∧ g < w5.heap.size + 1 + 1 ∧ ((w5.alloc (.cells #[.string s] 9)).alloc (.cells #[.func (.func 64) #[] #[.pointer (some ⟨w5.heap.size, 0, none⟩)]] 63)).cell? ⟨g, i * 2, none⟩ = some (.int .i64 (PL[i].1.1 : Nat)) ∧ ((w5.alloc (.cells #[.string s] 9)).alloc (.cells #[.func (.func 64) #[] #[.pointer (some ⟨w5.heap.size, 0, none⟩)]] 63)).cell? ⟨g, i * 2 + 1, none⟩ = some (.int .i64 (PL[i].1.2 : Nat)) := fun i hi => by
    obtain ⟨g, e, h2, h3, h4⟩ := hcl4 i hi
    have hg5 : g < w5.heap.size := Nat.lt_of_lt_of_le h2 hb5.size
    have hbb : Below w5.heap.size w5 ((w5.alloc (.cells #[.string s] 9)).alloc (.cells #[.func (.func 64) #[] #[.pointer (some ⟨w5.heap.size, 0, none⟩)]] 63)) := ((Below.refl _ w5).alloc (Nat.le_refl _) _).alloc (by simp) _
    exact ⟨g, e, by omega, (hbb.cell (p := ⟨g, i * 2, none⟩) hg5).trans ((hb5.cell (p := ⟨g, i * 2, none⟩) h2).trans h3), (hbb.cell (p := ⟨g, i * 2 + 1, none⟩) hg5).trans ((hb5.cell (p := ⟨g, i * 2 + 1, none⟩) h2).trans h4)⟩
  have hN0 : ((w5.alloc (.cells #[.string s] 9)).alloc (.cells #[.func (.func 64) #[] #[.pointer (some ⟨w5.heap.size, 0, none⟩)]] 63)).heap.size = w5.heap.size + 1 + 1 := by simp
  have hwN : w.heap.size + 1 + 1 + 1 < w5.heap.size := Nat.lt_of_lt_of_le q4.lt hb5.size
  simp only [World.size_alloc] at e6
  clear q1 q2 q3 q4 hcl4 hb5 hB4 hB5
  generalize ((w5.alloc (.cells #[.string s] 9)).alloc (.cells #[.func (.func 64) #[] #[.pointer (some ⟨w5.heap.size, 0, none⟩)]] 63)) = W0 at *
  generalize w5.heap.size = N at *
  clear w5 w4
  have hTab := tabs_below hT hB6
  have t0 := Boxed.new W0 3 (.int .i64 0)
  rw [hN0] at t0
  have hL0 : Below (N + 1 + 1) W0 (W0.alloc (.cells #[.int .i64 0] 3)) := (Below.refl _ W0).alloc (by omega) _
  generalize W0.alloc (.cells #[.int .i64 0] 3) = W1 at *
  refine wpIn_loop (fun a W => ∃ (k Bt : Nat) (ds : List Deferred) (u12 u13 u14 u15 u29 u30 u31 u32 u33 u34 u35 u36 u37 u38 u39 u40 u41 u42 u43 u44 u45 u46 u47 u48 u49 u50 u51 u52 u53 u54 u55 u56 u57 u58 u59 u60 u61 u62 u63 u64 u65 u66 u67 u68 u69 u70 u71 u72 u73 u74 u75 u76 u77 u78 u79 u80 u81 u82 u83 u84 u85 u86 u87 u88 u89 u90 u91 u92 u93 u94 u95 : Value), a = { tmps := #[.string s, .int .i64 stop, .int .i64 inner, undef, .pointer (some ⟨w.heap.size, 0, none⟩), .pointer (some ⟨w.heap.size + 1, 0, none⟩), .pointer (some ⟨w.heap.size + 1 + 1, 0, none⟩), .pointer (some ⟨w.heap.size + 1 + 1 + 1, 0, none⟩), vu, .int .i64 0, .pointer (some ⟨N + 1, 0, none⟩), .pointer (some ⟨Bt, 0, none⟩), u12, u13, u14, u15, .tuple #[vu, .int .i64 0], .string s, .tuple #[vu, .int .i64 0], vu, .int .i64 0, .int .i64 0, .bool true, vu, .slice A PL.length cap, .string s, .func (.func 64) #[] #[.pointer (some ⟨N, 0, none⟩)], .func (.func 64) #[] #[.pointer (some ⟨N, 0, none⟩)], .bool false, u29, u30, u31, u32, u33, u34, u35, u36, u37, u38, u39, u40, u41, u42, u43, u44, u45, u46, u47, u48, u49, u50, u51, u52, u53, u54, u55, u56, u57, u58, u59, u60, u61, u62, u63, u64, u65, u66, u67, u68, u69, u70, u71, u72, u73, u74, u75, u76, u77, u78, u79, u80, u81, u82, u83, u84, u85, u86, u87, u88, u89, u90, u91, u92, u93, u94, u95], defers := ds } ∧ k ≤ 2 ∧ N + 1 + 1 ≤ Bt ∧ Boxed W Bt 3 (.int .i64 (k : Nat)) ∧ Below (N + 1 + 1) W0 W ∧ marksN (N + 1 + 1) k ds W)
    (fun a W => 2 - turnOf a W) ⟨0, N + 1 + 1, [], undef, undef, undef, undef, undef, undef, undef, undef, undef, undef, undef, undef, undef, undef, undef, undef, undef, undef, undef, undef, undef, undef, undef, undef, undef, undef, undef, undef, undef, undef, undef, undef, undef, undef, undef, undef, undef, undef, undef, undef, undef, undef, undef, undef, undef, undef, undef, undef, undef, undef, undef, undef, undef, undef, undef, undef, undef, undef, undef, undef, undef, undef, undef, undef, undef, undef, undef, undef, undef, undef, undef, rfl, by omega, Nat.le_refl _, t0, hL0, marksN_nil _ _⟩ ?round
  rintro a W ⟨k, Bt, ds, u12, u13, u14, u15, u29, u30, u31, u32, u33, u34, u35, u36, u37, u38, u39, u40, u41, u42, u43, u44, u45, u46, u47, u48, u49, u50, u51, u52, u53, u54, u55, u56, u57, u58, u59, u60, u61, u62, u63, u64, u65, u66, u67, u68, u69, u70, u71, u72, u73, u74, u75, u76, u77, u78, u79, u80, u81, u82, u83, u84, u85, u86, u87, u88, u89, u90, u91, u92, u93, u94, u95, rfl, hk, hBt, xt, hB, hds⟩
  clear t0 hL0
  have ct := xt.cell
  have d1 := (hB.cell (p := ⟨w.heap.size, 0, none⟩) (by show w.heap.size < N + 1 + 1; omega)).trans e1.cell
  have d3 := (hB.cell (p := ⟨w.heap.size + 1 + 1, 0, none⟩) (by show w.heap.size + 1 + 1 < N + 1 + 1; omega)).trans e3.cell
  have f3 : W.frozen? ⟨w.heap.size + 1 + 1, 0, none⟩ = false := (hB.frozen (p := ⟨w.heap.size + 1 + 1, 0, none⟩) (by show w.heap.size + 1 + 1 < N + 1 + 1; omega)).trans e3.frozen
  have HSEQ : Hid (∀ m, 1 ≤ m → SeqStopsK Fence.wide m Tryd.prog 64 #[.pointer (some ⟨N, 0, none⟩)] encs (Below (N + 1 + 1)) (fun ys => ys = PL) (fun pre => pre <+: PL) PL.length W0) := hide (fun m hm => by
    rw [← unhide HPL]
    exact walk_stops m hm N (N + 1 + 1) s cs (unhide HCS) (by omega) W0 (by omega) (by omega) (by omega) e5.cell hTab)
  have HE := hide (And.intro e1.cell (And.intro e2.cell (And.intro e3.cell (And.intro e3.frozen (And.intro e4.cell (And.intro e6.cell hcl6))))))
  have HB6 := hide hB6
  have HPLL := hide hPLl
  have hXT := hide xt
  have hXB := hide hB
  have hDS := hide hds
  have hbtlt := xt.lt
  clear e1 e2 e3 e4 e5 e6 hcl6 hB6 hTab hT hE hv HRL HCS HPL xt hB hds hPLl hsz
  by_cases hk2 : k = 2
  · subst hk2
    gi_wp2_with fail
    obtain ⟨D, E, rfl, hD, hDE, hKD, hKE⟩ : ∃ D E, ds = [mark E, mark D] ∧ N + 1 + 1 ≤ D ∧ D < E ∧ W.heap[D]? = some (.deferred (some [])) ∧ W.heap[E]? = some (.deferred (some [])) := by
      rcases unhide hDS with ⟨h, _⟩ | ⟨h, _⟩ | ⟨_, h⟩
      · omega
      · omega
      · exact h
    have hK1 := (KeepsOthers.setCell W ⟨w.heap.size + 1 + 1, 0, none⟩ (.bool true)).same E _ hKE rfl
    have hK2 := (KeepsOthers.setCell W ⟨w.heap.size + 1 + 1, 0, none⟩ (.bool true)).same D _ hKD rfl
    have hK3 : ((W.setCell ⟨w.heap.size + 1 + 1, 0, none⟩ (.bool true)).putObj E (.deferred none)).heap[D]? = some (.deferred (some [])) := (World.putObj_heap_other (by omega)).trans hK2
    refine ⟨by simp, .inl ⟨_, _, rfl, run_takeDeferred hK1, ?_⟩⟩
    refine ⟨by simp, .inl ⟨_, _, rfl, run_takeDeferred hK3, ?_⟩⟩
    have c3 : (W.setCell ⟨w.heap.size + 1 + 1, 0, none⟩ (.bool true)).cell? ⟨w.heap.size + 1 + 1, 0, none⟩ = some (.bool true) := World.cell?_setCell_same _ _ _ d3
    have g1 := cell_kept c3 (grownBy_putObj' _ E (.deferred none)) (fun r e => by cases e; exact ⟨_, hK1, rfl⟩)
    have g2 := cell_kept g1 (grownBy_putObj' _ D (.deferred none)) (fun r e => by cases e; exact ⟨_, hK3, rfl⟩)
    have hBB : Below w.heap.size w (((W.setCell ⟨w.heap.size + 1 + 1, 0, none⟩ (.bool true)).putObj E (.deferred none)).putObj D (.deferred none)) := by
      have b0 : Below w.heap.size w W := (unhide HB6).trans ((unhide hXB).mono (by omega))
      have b1 := b0.setCell (p := ⟨w.heap.size + 1 + 1, 0, none⟩) (by show w.heap.size ≤ w.heap.size + 1 + 1; omega) (.bool true)
      have b2 := b1.trans (belowK_b (w := w) (Nat.le_refl _) _ E _ (.deferred none) (by omega) hK1 rfl rfl)
      exact b2.trans (belowK_b (w := w) (Nat.le_refl _) _ D _ (.deferred none) (by omega) hK3 rfl rfl)
    refine ⟨.bool true, ?_, rfl, hBB⟩
    simp [results, Tryd.f7, go_sem, g2]
  · have hk1 : (k : Int) < 2 := by omega
    have hLn : Below (N + 1 + 1) W0 (W.alloc (.cells #[.int .i64 0] 3)) := (unhide hXB).alloc (by have := (unhide hXB).size; omega) _
    have c6n : (W.alloc (.cells #[.int .i64 0] 3)).cell? ⟨N + 1, 0, none⟩ = some (.func (.func 64) #[] #[.pointer (some ⟨N, 0, none⟩)]) := (hLn.cell (p := ⟨N + 1, 0, none⟩) (by show N + 1 < N + 1 + 1; omega)).trans (unhide HE).2.2.2.2.2.1
    gi_wp2_with fail
    have bn := Boxed.new W 3 (.int .i64 0)
    have bt := (unhide hXT).alloc (.cells #[.int .i64 0] 3)
    have hszn : (W.alloc (.cells #[.int .i64 0] 3)).heap.size = W.heap.size + 1 := by simp
    have hBW : Below W.heap.size W (W.alloc (.cells #[.int .i64 0] 3)) := (Below.refl _ W).alloc (Nat.le_refl _) _
    generalize hBn : W.heap.size = Bn at *
    generalize W.alloc (.cells #[.int .i64 0] 3) = Wn at *
    have hN0s : N + 1 + 1 ≤ Bn := by have := (unhide hXB).size; omega
    refine wpIn_rangeFunc_ownH rfl (by omega) (gf := 64) (lb := #[.pointer (some ⟨N, 0, none⟩)]) rfl trivial (enters_of Tryd.func64 (by kernel_rfl) rfl)
      (unhide HSEQ 8 (by omega)) belowK_t (belowK_b (by omega)) (by rw [hN0]; exact hLn) (fun _ => rfl)
      (fun pre X => (pre <+: PL ∧ Boxed X Bt 3 (.int .i64 (k : Nat)) ∧ Boxed X Bn 3 (.int .i64 (pre.length : Nat))) ∧ (Below (N + 1 + 1) W0 X ∧ Below Bn W X))
      (fun c pre X => (c = .ret ∧ ¬ pre <+: PL) ∨ ((c = .exit 2 ∧ k = 0 ∧ ((pre.length : Nat) : Int) = wrap64 (stop + 1) ∧ Boxed X Bt 3 (.int .i64 (k : Nat)) ∧ Boxed X Bn 3 (.int .i64 (pre.length : Nat))) ∧ (Below (N + 1 + 1) W0 X ∧ Below Bn W X)))
      (OwnFrom.and (Own.from (fun s A B row hs hg hr => ⟨hs.1, box_kept hs.2.1 hg hr, box_kept hs.2.2 hg hr⟩) _) (OwnFrom.and (ownFrom_below (by omega) (by omega)) (ownFrom_below (by omega) (by omega))))
      ?hix
      ⟨⟨List.nil_prefix, bt, bn⟩, hLn, hBW⟩
      (fun x a' _ => a' = { tmps := #[.string s, .int .i64 stop, .int .i64 inner, undef, .pointer (some ⟨w.heap.size, 0, none⟩), .pointer (some ⟨w.heap.size + 1, 0, none⟩), .pointer (some ⟨w.heap.size + 1 + 1, 0, none⟩), .pointer (some ⟨w.heap.size + 1 + 1 + 1, 0, none⟩), vu, .int .i64 0, .pointer (some ⟨N + 1, 0, none⟩), .pointer (some ⟨Bt, 0, none⟩), .pointer (some ⟨Bn, 0, none⟩), .int .i64 (x.1.1 : Nat), .int .i32 (x.1.2 : Nat), u15, .tuple #[vu, .int .i64 0], .string s, .tuple #[vu, .int .i64 0], vu, .int .i64 0, .int .i64 0, .bool true, vu, .slice A PL.length cap, .string s, .func (.func 64) #[] #[.pointer (some ⟨N, 0, none⟩)], .func (.func 64) #[] #[.pointer (some ⟨N, 0, none⟩)], .bool false, .int .i64 (k : Nat), .bool true, u31, u32, .func (.func 64) #[] #[.pointer (some ⟨N, 0, none⟩)], .int .i64 (x.1.1 : Nat), .int .i32 (x.1.2 : Nat), u36, u37, u38, u39, u40, u41, u42, u43, u44, u45, u46, u47, u48, u49, u50, u51, u52, u53, u54, u55, u56, u57, u58, u59, u60, u61, u62, u63, u64, u65, u66, u67, u68, u69, u70, u71, u72, u73, u74, u75, u76, u77, u78, u79, u80, u81, u82, u83, u84, u85, u86, u87, u88, u89, u90, u91, u92, u93, u94, u95], defers := [] }) (fun _ _ _ _ _ _ (hs : _ = _) _ _ => hs) ?assign ?body ?done ?stop
    case hix =>
      intro c p A' B' row hs hg hr
      rcases hs with h | ⟨⟨h1, h2, h2', h3, h4⟩, hb, hb'⟩
      · exact .inl h
      · exact .inr ⟨⟨h1, h2, h2', box_kept h3 hg (fun r e => (hr r e).2), box_kept h4 hg (fun r e => (hr r e).2)⟩, ownFrom_below (β := Unit) (by omega) (by omega) () A' B' row hb hg hr, ownFrom_below (β := Unit) (by omega) (by omega) () A' B' row hb' hg hr⟩
    case assign =>
      intro l pre x X K hI hK
      simp only [encs]
      gi_wp2
      exact hK _ _ (KeepsFrom.refl _ _) (Below.refl _ _) hI rfl
    case body =>
      rintro l pre x a' X hl hrec ⟨⟨hpre, yt, yn⟩, hB, hBx⟩ rfl hlt
      obtain ⟨ec1, ec2, ec3, ef3, ec4, ec6, ecl⟩ := unhide HE
      have d1' := (hB.cell (p := ⟨w.heap.size, 0, none⟩) (by show w.heap.size < N + 1 + 1; omega)).trans ec1
      have d2 := (hB.cell (p := ⟨w.heap.size + 1, 0, none⟩) (by show w.heap.size + 1 < N + 1 + 1; omega)).trans ec2
      have d3' := (hB.cell (p := ⟨w.heap.size + 1 + 1, 0, none⟩) (by show w.heap.size + 1 + 1 < N + 1 + 1; omega)).trans ec3
      have d4 := (hB.cell (p := ⟨w.heap.size + 1 + 1 + 1, 0, none⟩) (by show w.heap.size + 1 + 1 + 1 < N + 1 + 1; omega)).trans ec4
      have f3' : X.frozen? ⟨w.heap.size + 1 + 1, 0, none⟩ = false := (hB.frozen (p := ⟨w.heap.size + 1 + 1, 0, none⟩) (by show w.heap.size + 1 + 1 < N + 1 + 1; omega)).trans ef3
      have ct' := yt.cell
      have cn := yn.cell
      have fn := yn.frozen
      obtain ⟨g, hA, hgN, hgc1, hgc2⟩ := ecl pre.length hlt
      have v1 := (hB.cell (p := ⟨g, pre.length * 2, none⟩) hgN).trans hgc1
      have v2 := (hB.cell (p := ⟨g, pre.length * 2 + 1, none⟩) hgN).trans hgc2
      subst hA
      have hnext := next_iff hpre hlt x
      generalize PL[pre.length].1.1 = y1 at *
      generalize PL[pre.length].1.2 = y2 at *
      have hpl := unhide HPLL
      have hwn : wrap64 (((pre.length : Nat) : Int) + 1) = ((pre.length : Nat) : Int) + 1 := by unfold wrap64; omega
      have hBm : Below (N + 1 + 1) W0 (X.alloc (.cells #[.int .i64 0] 3)) := hB.alloc (by have := hB.size; omega) _
      have d6m : (X.alloc (.cells #[.int .i64 0] 3)).cell? ⟨N + 1, 0, none⟩ = some (.func (.func 64) #[] #[.pointer (some ⟨N, 0, none⟩)]) := (hBm.cell (p := ⟨N + 1, 0, none⟩) (by show N + 1 < N + 1 + 1; omega)).trans ec6
      have HNX := hide hnext
      have HB := hide hB
      have HBX := hide hBx
      have HBM := hide hBm
      have HXT := hide yt
      have HXN := hide yn
      have HREC := hide hrec
      have hnum1 : Bt < Bn := by omega
      have HBN : Hid (Wn.heap.size = Bn + 1 ∧ Wn.heap.size ≤ l ∧ W0.heap.size = N + 1 + 1) := hide ⟨hszn, hl, hN0⟩
      clear hnext hBm hB hBx yt yn hrec ec1 ec2 ec3 ef3 ec4 ec6 ecl hgN hgc1 hgc2 hpre hl hszn hN0 bn bt hLn c6n hBW hpl hXT hXB hDS HB6 ct d1 d3 f3 hk2
      gi_wp2
      · rename_i h0
        exact ⟨(KeepsOthers.setCell _ _ _).from _, .inl ⟨rfl, fun h => by
          have hc := ((unhide HNX).1 h).2
          rcases h0 with h | h
          · omega
          · rw [hc] at h; simp at h⟩⟩
      · have h2 : ((x.1.1 : Nat) : Int) = ((y1 : Nat) : Int) := by assumption
        have h1 : (((x.1.2 : Nat) : Int) != ((y2 : Nat) : Int)) = false := (by assumption : ¬ PL.length ≤ pre.length ∧ (((x.1.2 : Nat) : Int) != ((y2 : Nat) : Int)) = false).2
        have hnx := (unhide HNX).2 ⟨by omega, by simp at h1; omega⟩
        obtain ⟨r0, hr0⟩ := unhide HREC
        have hlX : l < X.heap.size := (Array.getElem?_eq_some_iff.1 hr0).1
        obtain ⟨hbn2, hbn3, hbn4⟩ := unhide HBN
        have hr0m : (X.alloc (.cells #[.int .i64 0] 3)).heap[l]? = some (.loop r0) := (Below.heap_alloc _ _ _ hlX).trans hr0
        have bm := Boxed.new X 3 (.int .i64 0)
        have mt := (unhide HXT).alloc (.cells #[.int .i64 0] 3)
        have mn := (unhide HXN).alloc (.cells #[.int .i64 0] 3)
        have hBXm : Below (N + 1 + 1) X (X.alloc (.cells #[.int .i64 0] 3)) := (Below.refl _ X).alloc (by have := (unhide HB).size; omega) _
        have hBXn : Below Bn W (X.alloc (.cells #[.int .i64 0] 3)) := (unhide HBX).alloc (by have := (unhide HXN).lt; omega) _
        have hKF : KeepsFrom Wn.heap.size X (X.alloc (.cells #[.int .i64 0] 3)) := (KeepsOthers.alloc _ _).from _
        have hszm : (X.alloc (.cells #[.int .i64 0] 3)).heap.size = X.heap.size + 1 := by simp
        have hbnX := (unhide HXN).lt
        generalize hBme : X.heap.size = Bm at *
        have HWM := hide (unhide HBM)
        generalize X.alloc (.cells #[.int .i64 0] 3) = Xm at *
        refine wpIn_rangeFunc_ownN (l₀ := l) (r₀ := r0) rfl hr0m (by omega) (gf := 64) (lb := #[.pointer (some ⟨N, 0, none⟩)]) rfl trivial (enters_of Tryd.func64 (by kernel_rfl) rfl)
          ((unhide HSEQ 6 (by omega)).inRound l) belowK_t (belowK_b (by omega)) (by rw [hbn4]; exact unhide HWM) (fun _ => rfl)
          (fun pre2 X2 => (Boxed X2 Bm 3 (.int .i64 (pre2.length : Nat)) ∧ Boxed X2 Bt 3 (.int .i64 (k : Nat)) ∧ Boxed X2 Bn 3 (.int .i64 (pre.length : Nat))) ∧ (Below (N + 1 + 1) W0 X2 ∧ (Below (N + 1 + 1) X X2 ∧ (Below Bn W X2 ∧ KeepsFrom Wn.heap.size X X2))))
          (fun _ _ _ => False)
          (OwnFrom.and (Own.from (fun s A B row hs hg hr => ⟨box_kept hs.1 hg hr, box_kept hs.2.1 hg hr, box_kept hs.2.2 hg hr⟩) _) (OwnFrom.and (ownFrom_below (by omega) (by omega)) (OwnFrom.and (ownFrom_below (by omega) (by omega)) (OwnFrom.and (ownFrom_below (by omega) (by omega)) (ownFrom_keepsFrom (by omega))))))
          (fun _ _ _ _ _ hs _ _ => hs)
          ⟨⟨bm, mt, mn⟩, unhide HWM, hBXm, hBXn, hKF⟩
          (fun x2 a' _ => a' = { tmps := #[Value.string s, Value.int IntKind.i64 stop, Value.int IntKind.i64 inner, undef, Value.pointer (some { block := w.heap.size, off := 0 }), Value.pointer (some { block := w.heap.size + 1, off := 0 }), Value.pointer (some { block := w.heap.size + 1 + 1, off := 0 }), Value.pointer (some { block := w.heap.size + 1 + 1 + 1, off := 0 }), vu, Value.int IntKind.i64 0, Value.pointer (some { block := N + 1, off := 0 }), Value.pointer (some ⟨Bt, 0, none⟩), Value.pointer (some { block := Bn, off := 0 }), Value.int IntKind.i64 ((y1 : Nat) : Int), Value.int IntKind.i32 ((x.1.2 : Nat) : Int), Value.pointer (some { block := Bm, off := 0 }), Value.tuple #[vu, Value.int IntKind.i64 0], Value.string s, Value.tuple #[vu, Value.int IntKind.i64 0], vu, Value.int IntKind.i64 0, Value.int IntKind.i64 0, Value.bool true, vu, Value.slice (some { block := g, off := 0 }) PL.length cap, Value.string s, Value.func (Fn.func 64) #[] #[Value.pointer (some { block := N, off := 0 })], Value.func (Fn.func 64) #[] #[Value.pointer (some { block := N, off := 0 })], Value.bool false, Value.int .i64 (k : Nat), Value.bool true, u31, u32, Value.func (Fn.func 64) #[] #[Value.pointer (some { block := N, off := 0 })], Value.int IntKind.i64 ((y1 : Nat) : Int), Value.int IntKind.i32 ((x.1.2 : Nat) : Int), Value.int IntKind.i64 ((pre.length : Nat) : Int), Value.slice (some { block := g, off := 0 }) PL.length cap, Value.int IntKind.i64 ((PL.length : Nat) : Int), Value.bool false, Value.bool false, Value.int IntKind.i64 ((y1 : Nat) : Int), Value.slice (some { block := g, off := 0 }) PL.length cap, Value.int IntKind.i64 ((pre.length : Nat) : Int), Value.pointer (some { block := g, off := pre.length * 2 }), Value.pointer (some { block := g, off := pre.length * 2 }), Value.int IntKind.i64 ((y1 : Nat) : Int), Value.bool false, Value.bool false, Value.bool false, Value.int IntKind.i32 ((x.1.2 : Nat) : Int), Value.int IntKind.i64 ((x.1.2 : Nat) : Int), Value.slice (some { block := g, off := 0 }) PL.length cap, Value.int IntKind.i64 ((pre.length : Nat) : Int), Value.pointer (some { block := g, off := pre.length * 2 }), Value.pointer (some { block := g, off := pre.length * 2 + 1 }), Value.int IntKind.i64 ((y2 : Nat) : Int), Value.bool false, Value.bool false, Value.int IntKind.i64 ((pre.length : Nat) : Int), Value.int IntKind.i64 inner, Value.bool true, Value.func (Fn.func 64) #[] #[Value.pointer (some { block := N, off := 0 })], Value.int .i64 ((x2.1.1 : Nat) : Int), Value.int .i32 ((x2.1.2 : Nat) : Int), u65, u66, u67, u68, u69, u70, u71, u72, u73, u74, u75, u76, u77, u78, u79, u80, u81, u82, u83, u84, u85, u86, u87, u88, u89, u90, u91, u92, u93, u94, u95], defers := [] }) (fun _ _ _ _ _ _ (hs : _ = _) _ _ => hs) ?assign2 ?body2 ?done2 (fun _ _ _ _ h => h.elim)
        case assign2 =>
          intro l2 pre2 x2 X2 K hI hK
          simp only [encs]
          gi_wp2
          exact hK _ _ (KeepsFrom.refl _ _) (Below.refl _ _) hI rfl
        case body2 =>
          rintro l2 pre2 x2 a' X2 hl2 hrec2 ⟨⟨z1, z2, z3⟩, z4, z5, z7, z6⟩ rfl hlt2
          have hc1 := z1.cell
          have hf1 := z1.frozen
          have hpl2 := unhide HPLL
          have hw2 : wrap64 (((pre2.length : Nat) : Int) + 1) = ((pre2.length : Nat) : Int) + 1 := by unfold wrap64; omega
          have HZ := hide (And.intro z1 (And.intro z2 (And.intro z3 (And.intro z4 (And.intro z5 (And.intro z7 z6))))))
          have hnn : Bn < Bm := by omega
          have hnN : N + 1 + 1 < Bm := by omega
          clear z1 z2 z3 z4 z5 z6 z7 hrec2 hr0 hr0m hKF hBXm hBXn bm mt mn hnx d1' d2 d3' d4 d6m ct' cn fn v1 v2 f3' h1 h2 hwn hpl2 hl2 hszm hbn2 hbn3 hbn4 hlX HNX HB HBX HBM HXT HXN HREC HBN HE HSEQ HPLL
          gi_wp2
          obtain ⟨z1, z2, z3, z4, z5, z7, z6⟩ := unhide HZ
          exact ⟨(KeepsOthers.setCell _ _ _).from _, (Below.refl _ _).setCell (p := ⟨Bm, 0, none⟩) (by show N + 1 + 1 ≤ Bm; omega) _, ⟨by rw [List.length_append, List.length_singleton]; exact z1.set _, z2.other (by omega) _, z3.other (by omega) _⟩, z4.setCell (p := ⟨Bm, 0, none⟩) (by show N + 1 + 1 ≤ Bm; omega) _, z5.setCell (p := ⟨Bm, 0, none⟩) (by show N + 1 + 1 ≤ Bm; omega) _, z7.setCell (p := ⟨Bm, 0, none⟩) (by show Bn ≤ Bm; omega) _, z6.trans ((KeepsOthers.setCell _ _ _).from _)⟩
        case done2 =>
          rintro xs X2 hxs ⟨⟨z1, z2, z3⟩, z4, z5, z7, z6⟩
          rw [hxs] at z1
          have m1 := z1.cell
          have m2 := z2.cell
          have m3 := z3.cell
          have m3f := z3.frozen
          have mw := (z4.cell (p := ⟨w.heap.size + 1 + 1 + 1, 0, none⟩) (by show w.heap.size + 1 + 1 + 1 < N + 1 + 1; omega)).trans (unhide HE).2.2.2.2.1
          have ms := (z4.cell (p := ⟨w.heap.size, 0, none⟩) (by show w.heap.size < N + 1 + 1; omega)).trans (unhide HE).1
          have HZ := hide (And.intro z1 (And.intro z2 (And.intro z3 (And.intro z4 (And.intro z5 (And.intro z7 z6))))))
          have hnx' := hide hnx
          clear z1 z2 z3 z4 z5 z6 z7 hr0 hr0m hKF hBXm hBXn bm mt mn hnx d1' d2 d3' d4 ct' cn fn v1 v2 f3' hxs hszm hbn2 hbn3 hbn4 hlX HNX HB HBX HBM HXT HXN HREC HBN HE HSEQ HPLL
          gi_wp2
          · rename_i h1 h0
            rw [beq_iff_eq] at h0
            obtain ⟨z1, z2, z3, z4, z5, z7, z6⟩ := unhide HZ
            exact ⟨z6.trans ((KeepsOthers.setCell _ _ _).from _), .inr ⟨⟨rfl, h1, by rw [List.length_append, List.length_singleton, ← h0]; simp, z2.other (by omega) _, by rw [List.length_append, List.length_singleton]; exact z3.set _⟩, z4.setCell (p := ⟨Bn, 0, none⟩) (by show N + 1 + 1 ≤ Bn; omega) _, z7.setCell (p := ⟨Bn, 0, none⟩) (Nat.le_refl _) _⟩⟩
          · obtain ⟨z1, z2, z3, z4, z5, z7, z6⟩ := unhide HZ
            exact ⟨z6.trans ((KeepsOthers.setCell _ _ _).from _), z5.setCell (p := ⟨Bn, 0, none⟩) (by show N + 1 + 1 ≤ Bn; omega) _, ⟨unhide hnx', z2.other (by omega) _, by rw [List.length_append, List.length_singleton]; exact z3.set _⟩, z4.setCell (p := ⟨Bn, 0, none⟩) (by show N + 1 + 1 ≤ Bn; omega) _, z7.setCell (p := ⟨Bn, 0, none⟩) (Nat.le_refl _) _⟩
          · obtain ⟨z1, z2, z3, z4, z5, z7, z6⟩ := unhide HZ
            exact ⟨z6.trans ((KeepsOthers.setCell _ _ _).from _), z5.setCell (p := ⟨Bn, 0, none⟩) (by show N + 1 + 1 ≤ Bn; omega) _, ⟨unhide hnx', z2.other (by omega) _, by rw [List.length_append, List.length_singleton]; exact z3.set _⟩, z4.setCell (p := ⟨Bn, 0, none⟩) (by show N + 1 + 1 ≤ Bn; omega) _, z7.setCell (p := ⟨Bn, 0, none⟩) (Nat.le_refl _) _⟩
      · rename_i h1 h0
        rw [beq_iff_eq] at h0
        exact ⟨(KeepsOthers.setCell _ _ _).from _, .inr ⟨⟨rfl, h1, by rw [List.length_append, List.length_singleton, ← h0]; simp, (unhide HXT).other (by omega) _, by rw [List.length_append, List.length_singleton]; exact (unhide HXN).set _⟩, (unhide HB).setCell (p := ⟨Bn, 0, none⟩) (by show N + 1 + 1 ≤ Bn; omega) _, (unhide HBX).setCell (p := ⟨Bn, 0, none⟩) (Nat.le_refl _) _⟩⟩
      · rename_i h4 h3 h2 h1 h0
        have hnx := (unhide HNX).2 ⟨by omega, by have := h3.2; simp at this; omega⟩
        exact ⟨(KeepsOthers.setCell _ _ _).from _, (Below.refl _ _).setCell (p := ⟨Bn, 0, none⟩) (by show N + 1 + 1 ≤ Bn; omega) _, ⟨hnx, (unhide HXT).other (by omega) _, by rw [List.length_append, List.length_singleton]; exact (unhide HXN).set _⟩, (unhide HB).setCell (p := ⟨Bn, 0, none⟩) (by show N + 1 + 1 ≤ Bn; omega) _, (unhide HBX).setCell (p := ⟨Bn, 0, none⟩) (Nat.le_refl _) _⟩
      · rename_i h3 h2 h1 h0
        have hnx := (unhide HNX).2 ⟨by omega, by have := h2.2; simp at this; omega⟩
        exact ⟨(KeepsOthers.setCell _ _ _).from _, (Below.refl _ _).setCell (p := ⟨Bn, 0, none⟩) (by show N + 1 + 1 ≤ Bn; omega) _, ⟨hnx, (unhide HXT).other (by omega) _, by rw [List.length_append, List.length_singleton]; exact (unhide HXN).set _⟩, (unhide HB).setCell (p := ⟨Bn, 0, none⟩) (by show N + 1 + 1 ≤ Bn; omega) _, (unhide HBX).setCell (p := ⟨Bn, 0, none⟩) (Nat.le_refl _) _⟩
      · rename_i h0
        exact ⟨(KeepsOthers.setCell _ _ _).from _, .inl ⟨rfl, fun h => by
          have hc := ((unhide HNX).1 h).1
          omega⟩⟩
    case done =>
      rintro D ys X hD hys ⟨⟨hp, yt, yn⟩, hB, hBx⟩ hK
      rw [hys] at yn
      clear hys hp
      have ct' := yt.cell
      have cn := yn.cell
      have d4 := (hB.cell (p := ⟨w.heap.size + 1 + 1 + 1, 0, none⟩) (by show w.heap.size + 1 + 1 + 1 < N + 1 + 1; omega)).trans (unhide HE).2.2.2.2.1
      have d1' := (hB.cell (p := ⟨w.heap.size, 0, none⟩) (by show w.heap.size < N + 1 + 1; omega)).trans (unhide HE).1
      have hwk : wrap64 ((k : Int) + 1) = (k : Int) + 1 := by unfold wrap64; omega
      have HN := hide (next_turn (B := N + 1 + 1) hk2 hk (unhide hDS) hBx hBn (by omega) hK (unhide hXT) hB hBt)
      clear yt yn hB hBx hK hD bn bt hLn c6n hBW hszn hDS hXB HB6 HSEQ HE HPLL ct d1 d3 f3
      gi_wp2
      all_goals
        obtain ⟨n1, n2, n3, n4⟩ := unhide HN
        exact ⟨⟨k + 1, X.heap.size, mark D :: ds, _, _, _, _, _, _, _, _, _, _, _, _, _, _, _, _, _, _, _, _, _, _, _, _, _, _, _, _, _, _, _, _, _, _, _, _, _, _, _, _, _, _, _, _, _, _, _, _, _, _, _, _, _, _, _, _, _, _, _, _, _, _, _, _, _, _, _, _, _, _, _, rfl, by omega, n1, n2, n3, n4⟩, turn_less hk1 (unhide hXT) n2⟩
    case stop =>
      rintro D c pre X hD hpre hx hK
      rcases hx with ⟨_, hno⟩ | ⟨⟨rfl, hk0, hst, yt, yn⟩, hB, hBx⟩
      · exact absurd hpre hno
      have hst' : (((pre.length : Nat) : Int) == wrap64 (stop + 1)) = true := by rw [beq_iff_eq]; exact hst
      have hstn : (((pre.length : Nat) : Int) != wrap64 (stop + 1)) = false := by rw [hst]; simp
      have hkn : ¬ k = 1 := by omega
      have hkn' : ((k : Int) == 1) = false := by rw [hk0]; rfl
      have HK0 := hide hk0
      have HST := hide hst
      clear hpre hk0 hst
      have ct' := yt.cell
      have cn := yn.cell
      have d4 := (hB.cell (p := ⟨w.heap.size + 1 + 1 + 1, 0, none⟩) (by show w.heap.size + 1 + 1 + 1 < N + 1 + 1; omega)).trans (unhide HE).2.2.2.2.1
      have d1' := (hB.cell (p := ⟨w.heap.size, 0, none⟩) (by show w.heap.size < N + 1 + 1; omega)).trans (unhide HE).1
      have hwk : wrap64 ((k : Int) + 1) = (k : Int) + 1 := by unfold wrap64; omega
      have HN := hide (next_turn (B := N + 1 + 1) hk2 hk (unhide hDS) hBx hBn (by omega) hK (unhide hXT) hB hBt)
      clear yt yn hB hBx hK hD bn bt hLn c6n hBW hszn hDS hXB HB6 HSEQ HE HPLL ct d1 d3 f3
      gi_wp2
      all_goals
        obtain ⟨n1, n2, n3, n4⟩ := unhide HN
        exact ⟨⟨k + 1, X.heap.size, mark D :: ds, _, _, _, _, _, _, _, _, _, _, _, _, _, _, _, _, _, _, _, _, _, _, _, _, _, _, _, _, _, _, _, _, _, _, _, _, _, _, _, _, _, _, _, _, _, _, _, _, _, _, _, _, _, _, _, _, _, _, _, _, _, _, _, _, _, _, _, _, _, _, _, rfl, by omega, n1, n2, n3, n4⟩, turn_less hk1 (unhide hXT) n2⟩

/-- THE LAW. -/
theorem law_points (s : ByteArray) (stop inner : Int) (hsz : s.size ≤ 1099511627776) (w : World) (hT : Lib.Utf8Tabs 0 1 w) : Calls Tryd.prog 7 #[.string s, .int .i64 stop, .int .i64 inner] w fun e w' => e = .returned (.bool true) ∧ Below w.heap.size w w' := by
  cases hv : vS s
  · exact points_law_bad s stop inner hsz hv w hT
  · exact points_law_good s stop inner hsz hv w hT
end Go.Proofs.YtakenhaieblikaaDoor
