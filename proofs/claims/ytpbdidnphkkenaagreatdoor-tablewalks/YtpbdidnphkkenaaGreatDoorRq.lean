import Derived.Test.YtpbdidnphkkenaaGreatDoorRp
set_option linter.all false
namespace Go.Proofs.YtpbdidnphkkenaaGreatDoor
set_option maxHeartbeats 1000000
section
open Go Go.Proofs Go.Maps Go.RowKit
theorem inCall {F : Fence} {n l : Nat} {ops : Array Oper} {rest : List Oper} {Q : Exit → Act → World → Prop} {w : World} {a : Act} {o : Oper} {f : FuncId} {args : Array Value} {R : Ending → World → Prop} (hF : F = Fence.wide.inRound l) (hw : Region.wanted o (yielded ops a.tmps) = true) (hnd : ∀ c, o.op ≠ .defer c) (he : (execOp a.eval o).run Tryz.prog w = .ok (.enter f args) w) (hC : Calls Tryz.prog f args w R)
    (h : ∀ e X, R e X → ∃ V, e = .returned V ∧ wpListIn F n Tryz.prog ops Q rest (a.put o.dst V) X) : wpListIn F n Tryz.prog ops Q (o :: rest) a w := by
  subst hF
  refine BigFrame.wpListIn_want hw fun K hK => ?_
  refine ⟨fun f _ => trivial, ?_⟩
  have e : o.semAt (Fence.wide.inRound l).round a.eval = execOp a.eval o := Oper.semAt_some l _ _ hnd
  rw [e, he, Oper.uponIn_enter]
  refine ⟨(fun h => by cases h), ((callsIn_wide.2 hC).inRound l).mono ?_⟩
  intro e X hR
  obtain ⟨V, rfl, hV⟩ := h e X hR
  exact hK _ _ hV
set_option maxRecDepth 100000 in
theorem clone24 (T : TT) (w : World) (hT : T.Is w) (hlast : T.last < 3000000) : Calls Tryz.prog 24 #[.pointer (some ⟨T.t, 0, none⟩)] w fun e w' => ∃ C : TT, e = .returned (.pointer (some ⟨C.t, 0, none⟩)) ∧ C.Is w' ∧ C.live.map RR.pr = T.live.map RR.pr ∧ C.last = T.live.length ∧ (∀ b ∈ C.blocks, w.heap.size ≤ b) ∧ Below w.heap.size w w' := by
  refine (callsIn_wide (n := 4)).1 ?_
  have HN := hide (new10 w)
  have HE := hide (fun X => each41 T X)
  have HT := hide hT
  have hll : T.live.length ≤ 3000000 := by have h1 := T.live_le; have h2 := hT.len; omega
  clear hT
  refine callsIn_of_wp_marks Tryz.func24 rfl trivial ?_ rfl
  simp only [Tryz.ntmps24, List.size_toArray, List.length_cons, List.length_nil, Nat.reduceAdd, Nat.reduceSub, Array.replicate_succ, Array.replicate_zero, List.push_toArray, List.append_toArray, List.nil_append, List.cons_append]
  gi_wp2_with fail
  refine ⟨trivial, (callsIn_wide.2 (unhide HN)).mono ?_⟩
  rintro e w1 ⟨C0, rfl, hC0, hr0, hl0, hb0, hB0⟩
  have HC0 := hide (And.intro hC0 (And.intro hr0 (And.intro hl0 (And.intro hb0 hB0))))
  clear hC0 hr0 hl0 hb0 hB0
  gi_wp2_with fail
  refine ⟨trivial, (callsIn_wide.2 ((unhide HE) _)).mono ?_⟩
  rintro e w2 ⟨rfl, rfl⟩
  obtain ⟨hC0, hr0, hl0, hb0, hB0⟩ := unhide HC0
  have hs1 := hB0.size
  have b3 : Boxed (w1.alloc (.cells #[.pointer (some ⟨C0.t, 0, none⟩)] 26)) w1.heap.size 26 (.pointer (some ⟨C0.t, 0, none⟩)) := Boxed.new w1 26 _
  have bn : Boxed ((w1.alloc (.cells #[.pointer (some ⟨C0.t, 0, none⟩)] 26)).alloc (.cells #[.pointer (some ⟨T.t, 0, none⟩)] 26)) (w1.heap.size + 1) 26 (.pointer (some ⟨T.t, 0, none⟩)) := by
    have := Boxed.new (w1.alloc (.cells #[.pointer (some ⟨C0.t, 0, none⟩)] 26)) 26 (.pointer (some ⟨T.t, 0, none⟩))
    rwa [World.size_alloc] at this
  have hBa : Below w1.heap.size w1 ((w1.alloc (.cells #[.pointer (some ⟨C0.t, 0, none⟩)] 26)).alloc (.cells #[.pointer (some ⟨T.t, 0, none⟩)] 26)) := ((Below.refl _ _).alloc (Nat.le_refl _) _).alloc (by simp) _
  have hB1 : Below w.heap.size w ((w1.alloc (.cells #[.pointer (some ⟨C0.t, 0, none⟩)] 26)).alloc (.cells #[.pointer (some ⟨T.t, 0, none⟩)] 26)) := hB0.trans (hBa.mono hs1)
  have hT3 := (unhide HT).on hB1
  have hlt3 := (unhide HT).lt
  have hcm : C0.m < w1.heap.size := hC0.lt C0.m (by simp [TT.blocks])
  have hC3 := hC0.on hBa
  have hokb : Okb w.heap.size (w1.heap.size + 1) w1.heap.size C0.blocks := fun b hb => by
    have h1 := hC0.lt b hb
    have h2 := hb0 b hb
    exact ⟨h2, by omega, by omega⟩
  have hCI0 : CI C0.t C0.m w.heap.size (w1.heap.size + 1) w1.heap.size [] ((w1.alloc (.cells #[.pointer (some ⟨C0.t, 0, none⟩)] 26)).alloc (.cells #[.pointer (some ⟨T.t, 0, none⟩)] 26)) := .inl ⟨List.Pairwise.nil, C0, hC3, rfl, rfl, by unfold TT.live; rw [hr0]; rfl, hl0, hokb⟩
  have HCM := hide hcm
  clear HN HE HC0 hC0 hr0 hl0 hb0 hokb hC3
  gi_wp2
  try simp only [World.size_alloc]
  refine wpIn_rangeFunc_ownH (α := GP) rfl (by omega) (gf := 49) (lb := #[.pointer (some ⟨w1.heap.size + 1, 0, none⟩)]) rfl trivial (enters_of Tryz.func49 (by kernel_rfl) rfl)
    (each_stopsM T 3 (by omega) (w1.heap.size + 1) w.heap.size _ hT3 (by omega) hlt3 (by simp) bn.cell (by simp; omega)) kb_t (kb_b (by simp; omega) (by simp)) (Below.refl _ _) (fun _ => rfl)
    (fun pre W => CI C0.t C0.m w.heap.size (w1.heap.size + 1) w1.heap.size pre W ∧ Boxed W w1.heap.size 26 (.pointer (some ⟨C0.t, 0, none⟩)) ∧ Boxed W (w1.heap.size + 1) 26 (.pointer (some ⟨T.t, 0, none⟩)) ∧ Below w.heap.size w W)
    (fun _ _ _ => False)
    (OwnFrom.and (CI.own (by have := unhide HCM; simp; omega)) (OwnFrom.and (Own.from (boxed_own _ _ _) _) (OwnFrom.and (Own.from (boxed_own _ _ _) _) (ownFrom_below (Nat.le_refl _) (by simp; omega)))))
    (fun _ _ _ _ _ hs _ _ => hs)
    ⟨hCI0, b3.alloc _, bn, hB1⟩
    (fun x a' W => ∃ Bk Bd, a' = { tmps := #[.pointer (some ⟨T.t, 0, none⟩), undef, .pointer none, .pointer (some ⟨w1.heap.size, 0, none⟩), .pointer (some ⟨Bk, 0, none⟩), .pointer (some ⟨Bd, 0, none⟩), .pointer (some ⟨C0.t, 0, none⟩), .pointer (some ⟨T.t, 0, none⟩), .func (.func 49) #[] #[.pointer (some ⟨w1.heap.size + 1, 0, none⟩)], x.1.1.agg, x.1.2.agg, undef, undef, undef, undef, undef, undef], defers := [] } ∧ Holds W Bk x.1.1.cs ∧ Holds W Bd x.1.2.cs)
    (fun x a' _ X Y row hs hg hr => by
      obtain ⟨Bk, Bd, h1, h2, h3⟩ := hs
      exact ⟨Bk, Bd, h1, holds_own h2 (Nat.succ_pos _) hg (fun r e => (hr r e).2), holds_own h3 (Nat.succ_pos _) hg (fun r e => (hr r e).2)⟩)
    ?assign ?body ?done ?stop
  case assign =>
    intro l pre x W K hI hK
    simp only [encP]
    obtain ⟨p1, p2, p3⟩ := new_var W zeroK.cs x.1.1.cs 33 (Nat.le_refl _) rfl (Nat.succ_pos _)
    obtain ⟨X1, hX1⟩ : ∃ X1, X1 = (W.alloc (Obj.cells zeroK.cs.toArray 33)).setCells W.heap.size 0 x.1.1.cs := ⟨_, rfl⟩
    rw [← hX1] at p1 p2 p3
    obtain ⟨q1, q2, q3⟩ := new_var X1 zeroD.cs x.1.2.cs 39 (Nat.le_refl _) rfl (Nat.succ_pos _)
    obtain ⟨X2, hX2⟩ : ∃ X2, X2 = (X1.alloc (Obj.cells zeroD.cs.toArray 39)).setCells X1.heap.size 0 x.1.2.cs := ⟨_, rfl⟩
    rw [← hX2] at q1 q2 q3
    have HK := hide (hK)
    have hb2 : Below W.heap.size W X2 := p1.trans (q1.mono (by omega))
    have hg2 : W.grownBy X2 none := grown_of_below hb2
    have hI2 : Hid _ := hide hI
    clear hK hI
    have ht : ((#[9, 10] : Array Tmp).zip #[x.1.1.agg, x.1.2.agg]).foldl (fun t x => t.setIfInBounds x.1 x.2) (#[.pointer (some ⟨T.t, 0, none⟩), undef, .pointer none, .pointer (some ⟨w1.heap.size, 0, none⟩), undef, undef, .pointer (some ⟨C0.t, 0, none⟩), .pointer (some ⟨T.t, 0, none⟩), .func (.func 49) #[] #[.pointer (some ⟨w1.heap.size + 1, 0, none⟩)], undef, undef, undef, undef, undef, undef, undef, undef] : Array Value) = #[.pointer (some ⟨T.t, 0, none⟩), undef, .pointer none, .pointer (some ⟨w1.heap.size, 0, none⟩), undef, undef, .pointer (some ⟨C0.t, 0, none⟩), .pointer (some ⟨T.t, 0, none⟩), .func (.func 49) #[] #[.pointer (some ⟨w1.heap.size + 1, 0, none⟩)], x.1.1.agg, x.1.2.agg, undef, undef, undef, undef, undef, undef] := by simp
    rw [ht]
    gi_wp2_with (first | go_skip | ((refine inV (fun _ => trivial) (by rfl) (by intro c h; cases h) (ex_alloc33 rfl) ?_); simp only [Act.put, nzA, nzB, nzC]) | ((refine inS (fun _ => trivial) (by rfl) (by intro c h; cases h) (ex_store (t := 33) (vs := x.1.1.cs) rfl rfl rfl rfl (by simp [KK.cs, Value.oneCell']) siz33 (Holds.new W zeroK.cs 33) (Nat.le_refl _)) ?_); rw [← hX1]; simp only [Act.put, nzA, nzB, nzC]) | ((refine inV (fun _ => trivial) (by rfl) (by intro c h; cases h) (ex_alloc39 rfl) ?_); simp only [Act.put, nzA, nzB, nzC]) | ((refine inS (fun _ => trivial) (by rfl) (by intro c h; cases h) (ex_store (t := 39) (vs := x.1.2.cs) rfl rfl rfl rfl (by simp [DD.cs, VV.cs, Value.oneCell']) siz39 (Holds.new X1 zeroD.cs 39) (Nat.le_refl _)) ?_); rw [← hX2]; simp only [Act.put, nzA, nzB, nzC]))
    obtain ⟨hci, hv, hbn, hB⟩ := unhide hI2
    have hsz := hB.size
    refine (unhide HK) _ X2 (KeepsFrom.of_grownBy hg2 (fun j e => by cases e)) ⟨hb2.mono hsz, hb2.block _ hbn.lt⟩ ⟨hci.on hb2, hv.kept hg2 (by simp), hbn.kept hg2 (by simp), hB.trans (hb2.mono hsz)⟩ ⟨W.heap.size, X1.heap.size, rfl, p2.block (q1.block _ (by omega)), q2⟩
  case body =>
    rintro l pre x a' W hl2 hloop ⟨hci, hv, hbn, hB⟩ ⟨Bk, Bd, rfl, hk, hd⟩ hlen
    have hC := clone_add (B0 := w1.heap.size + 1 + 1) x hci (by have := unhide HCM; omega) (by omega) hB.size ⟨hbn.lt, hv.lt⟩
    have HC := hide hC
    have Hk := hide hk
    have Hd := hide hd
    have Hv := hide hv
    have Hbn := hide hbn
    have HB := hide hB
    clear hk hd hv hbn hB hloop hC hci
    refine wpIn_block ?_
    refine wpIn_region_lit ?_
    refine inV (fun _ => trivial) (by rfl) (by intro c h; cases h) (ex_loadC (B := w1.heap.size) (p := 0) (v := .pointer (some ⟨C0.t, 0, none⟩)) 26 Tryz.isAgg26 rfl rfl (unhide Hv).cell) ?_
    simp only [Act.put, nzA, nzB, nzC]
    refine inV (fun _ => trivial) (by rfl) (by intro c h; cases h) (ex_loadN (B := Bk) (p := 0) (cs := x.1.1.cs) (vs := x.1.1.cs) 33 2 row33x siz33 rfl rfl (unhide Hk) rfl rfl) ?_
    simp only [Act.put, nzA, nzB, nzC]
    refine inV (fun _ => trivial) (by rfl) (by intro c h; cases h) (ex_loadN (B := Bd) (p := 0) (cs := x.1.2.cs) (vs := x.1.2.cs) 39 18 row39 siz39 rfl rfl (unhide Hd) rfl rfl) ?_
    simp only [Act.put, nzA, nzB, nzC]
    refine inV (fun _ => trivial) (by rfl) (by intro c h; cases h) (ex_build58 (k := x.1.1) (d := x.1.2) rfl rfl rfl) ?_
    simp only [Act.put, nzA, nzB, nzC]
    refine inCall (l := l) rfl (by rfl) (by intro c h; cases h) (by kernel_rfl) (unhide HC) ?_
    rintro e W' ⟨rfl, hci, E, hf, hpl, hok⟩
    refine ⟨_, rfl, ?_⟩
    refine wpListIn_nil ?_
    have hv := unhide Hv
    have hbn := unhide Hbn
    have hB := unhide HB
    have e3 : W'.heap[w1.heap.size]? = W.heap[w1.heap.size]? := hf.block _ hv.lt (fun hm => (hok _ hm).2.2 rfl)
    have en : W'.heap[w1.heap.size + 1]? = W.heap[w1.heap.size + 1]? := hf.block _ hbn.lt (fun hm => (hok _ hm).2.1 rfl)
    have hbel : Below w.heap.size W W' := ⟨hf.os, hf.tape, hf.output, hf.size, fun b hb => hf.block b (Nat.lt_of_lt_of_le hb hB.size) (fun hm => by have := (hok _ hm).1; omega)⟩
    exact ⟨by (rw [World.size_alloc, World.size_alloc]); exact keeps_fr hf hpl, ⟨hbel, en⟩, ⟨hci, e3.trans hv, en.trans hbn, hB.trans hbel⟩⟩
  case done =>
    rintro D ys W hD hys ⟨hci, hv, hbn, hB⟩ hK
    have hc := hv.cell
    have hdst : Dst ys := by
      unfold Dst
      have h1 : (ys.map (·.1)).map (·.1) = (T.live.map RR.pr).map (·.1) := by rw [hys]
      rw [List.map_map, List.map_map] at h1
      have h2 : ys.map (fun x => x.1.1) = T.live.map (·.k) := h1
      rw [h2, List.pairwise_map]
      exact (unhide HT).keys
    rcases hci with ⟨-, C, hC, h3, h4, h5, h6, h7⟩ | ⟨h1, -⟩
    · have hlen : ys.length = T.live.length := by have := congrArg List.length hys; simpa using this
      have HCC := hide (And.intro hC (And.intro h3 (And.intro h4 (And.intro h5 (And.intro h6 (And.intro h7 hlen))))))
      clear hC h3 h4 h5 h6 h7 hlen hdst
      gi_wp2
      obtain ⟨hC, h3, h4, h5, h6, h7, hlen⟩ := unhide HCC
      refine ⟨by simp, .inl ⟨_, _, rfl, run_takeDeferred hK, ?_⟩⟩
      have hbk := belowK_b (w := w) (Nat.le_refl _) W D _ (.deferred none) (by simp at hD; omega) hK rfl rfl
      refine ⟨_, results_tmp rfl _ _ _, C, by rw [h3]; rfl, ?_, h5.trans hys, h6.trans hlen, fun b hb => (h7 b hb).1, hB.trans hbk⟩
      refine hC.block (fun b hb => ?_)
      rcases hC.plainly (B0 := w1.heap.size + 1 + 1) (by have := unhide HCM; omega) b hb with h8 | ⟨cur, e, fz, h8⟩
      · exact World.putObj_heap_other (by simp at hD; omega)
      · exact World.putObj_heap_other (fun e => by rw [e] at h8; rw [hK] at h8; cases h8)
    · exact absurd hdst h1
  case stop =>
    rintro D c pre W _ _ h _
    exact h.elim
theorem PS.Is.cloned {S : PS} {w W' : World} {base N m : Nat} (h : S.Is w base N) (hf : Fr w W' [S.P]) {C : TT} {R' : RT} (hC : C.Is W') (hR : R'.Is W') (hc1 : ∀ b ∈ C.blocks, w.heap.size ≤ b ∧ b < m) (hr1 : ∀ b ∈ R'.blocks, m ≤ b) (hm : w.heap.size ≤ m) (hl : C.live.map RR.pr = S.T0.live.map RR.pr) (hcl : C.last = S.T0.live.length) (he : R'.es = S.R0.es) (hn : R'.nx = S.R0.nx) (hh : Holds W' S.P (pairCs S.T0.t C.t S.R0.t R'.t S.left)) : PS.Is { S with T1 := C, R1 := R' } W' base (N + 1) ∧ Went S { S with T1 := C, R1 := R' } w W' := by
  have n : ∀ i B, S.parts[i]? = some B → 0 < i → ∀ b ∈ B, b ∉ [S.P] := fun i B hi h0 b hb hm => by
    obtain rfl : b = S.P := by simpa using hm
    exact h.bs.d 0 i _ _ rfl hi h0 S.P (by simp) hb
  have hlt := h.bs.lt
  have hPl : S.P < w.heap.size := hlt [S.P] (by simp [PS.parts]) S.P (by simp)
  have l0 : ∀ b ∈ S.T0.blocks, b < w.heap.size := hlt _ (by simp [PS.parts])
  have l3 : ∀ b ∈ S.R0.blocks, b < w.heap.size := hlt _ (by simp [PS.parts])
  have d := h.bs.d
  have hlive := h.live0
  have hnx := h.nx
  have hla := h.last
  have hnew : ∀ b ∈ (PS.parts { S with T1 := C, R1 := R' }).flatten, b ∈ S.parts.flatten ∨ w.heap.size ≤ b := by
    intro b hb
    simp only [PS.parts, List.flatten_cons, List.flatten_nil, List.mem_append, List.append_nil] at hb ⊢
    rcases hb with h1 | h1 | h1 | h1 | h1
    · exact .inl (.inl h1)
    · exact .inl (.inr (.inl h1))
    · exact .inr (hc1 b h1).1
    · exact .inl (.inr (.inr (.inr (.inl h1))))
    · have := hr1 b h1; exact .inr (by omega)
  refine ⟨⟨⟨hh, h.bs.t0.fr hf (n 1 _ rfl (by omega)), hC, h.bs.r0.fr hf (n 3 _ rfl (by omega)), hR, ?_, ?_, h.bs.four, Nat.le_trans h.bs.size hf.size⟩, h.rel0, ?_, ⟨by show S.T0.last ≤ N + 1; omega, by show C.last ≤ N + 1; omega⟩, ⟨hnx.1, by show S.R0.nx ≤ ((N + 1 : Nat) : Int); omega, by show 0 ≤ R'.nx; omega, by show R'.nx ≤ ((N + 1 : Nat) : Int); omega⟩, ⟨h.ris.1, ris_sub h.ris.1 (by rw [he]; exact List.Sublist.refl _) hn⟩, fun c hc => (h.cut c hc).step (S' := { S with T1 := C, R1 := R' }) (Nat.le_refl _) (Int.le_refl _) (h.cut c hc).al hf.size (fun b hb => ?_) (fun b hb hn' => cell_blk (hf.block b hb (fun he' => hn' (by obtain rfl : b = S.P := (by simpa using he'); simp [PS.hot]))))⟩, rfl, hf.mono (fun b hb => .inl ?_), hnew, rfl, rfl, fun _ => ⟨rfl, rfl⟩⟩
  · unfold PS.parts
    refine List.pairwise_cons.2 ⟨?_, List.pairwise_cons.2 ⟨?_, List.pairwise_cons.2 ⟨?_, List.pairwise_cons.2 ⟨?_, List.pairwise_cons.2 ⟨?_, List.Pairwise.nil⟩⟩⟩⟩⟩
    · intro B hB
      simp only [List.mem_cons, List.not_mem_nil, or_false] at hB
      rcases hB with rfl | rfl | rfl | rfl
      · exact d 0 1 _ _ rfl rfl (by omega)
      · intro x hx hx'
        obtain rfl : x = S.P := by simpa using hx
        have := (hc1 _ hx').1
        omega
      · exact d 0 3 _ _ rfl rfl (by omega)
      · intro x hx hx'
        obtain rfl : x = S.P := by simpa using hx
        have := hr1 _ hx'
        omega
    · intro B hB x hx hx'
      have h1 := l0 x hx
      simp only [List.mem_cons, List.not_mem_nil, or_false] at hB
      rcases hB with rfl | rfl | rfl
      · have := (hc1 _ hx').1
        omega
      · exact d 1 3 _ _ rfl rfl (by omega) x hx hx'
      · have := hr1 _ hx'
        omega
    · intro B hB x hx hx'
      have h1 := hc1 x hx
      simp only [List.mem_cons, List.not_mem_nil, or_false] at hB
      rcases hB with rfl | rfl
      · have := l3 _ hx'
        omega
      · have := hr1 _ hx'
        omega
    · intro B hB x hx hx'
      obtain rfl : B = R'.blocks := by simpa using hB
      have h1 := l3 x hx
      have := hr1 _ hx'
      omega
    · intro B hB
      cases hB
  · intro B hB b hb
    rcases hnew b (List.mem_flatten.2 ⟨B, hB, hb⟩) with h1 | h1
    · obtain ⟨D, hD, hbD⟩ := List.mem_flatten.1 h1
      exact h.bs.low D hD b hbD
    · exact Nat.le_trans h.bs.size h1
  · show C.live.map RR.pr = R'.es.map EE.pr
    rw [hl, he]
    exact h.rel0
  · simp only [PS.hot, List.mem_cons, List.mem_append] at hb ⊢
    rcases hb with h1 | h1 | h1 | h1 | h1
    · exact .inl (.inl h1)
    · exact .inl (.inr (.inl h1))
    · exact .inr (hc1 b h1).1
    · exact .inl (.inr (.inr (.inr (.inl h1))))
    · have := hr1 b h1; exact .inr (by omega)
  · obtain rfl : b = S.P := by simpa using hb
    exact List.mem_flatten.2 ⟨[S.P], by simp [PS.parts], by simp⟩
set_option maxRecDepth 100000 in
theorem play_clone (S : PS) (k : KK) (d : DD) (nn : Int) (inner : Value) (dep : Int) (w : World) (base N : Nat) (hS : S.Is w base N) (hN : N < 800000) (hU : ∀ X, Below base w X → Lib.Utf8Tabs 2 3 X) (hP : ∀ X, Below base w X → TabP X) : Calls Tryz.prog 8 #[.pointer (some ⟨S.P, 0, none⟩), actV 8 k d nn inner, .int .i64 dep] w fun e w' => e = .returned (.bool true) ∧ ∃ S', S'.Is w' base (N + 1) ∧ Went S S' w w' := by
  have HU := hide hU
  have HPf := hide hP
  have HBZ := hide hS.bs.size
  clear hU hP
  have HP := hide hS.bs.hold
  have HLT := hide hS.bs.lt
  have HS := hide hS
  clear hS
  unfold actV
  go_enter Tryz.func8, Tryz.ntmps8
  go_wp2_with (first | go_skip | (refine bx 41 (actCs 8 k d nn inner) (by rfl) rfl rfl rfl (Nat.succ_pos _) (Hq.nil w []) ?_; intro w1 B hB L1 hb1; replace HP := hide ((unhide HS).bs.on hb1).hold; replace HS := hide ((unhide HS).on hb1); have LL := hide L1; have HB1 := hide hb1; have HB := hide hB; clear hB L1 hb1; simp only [Act.put, nzA, nzB, nzC]) | (refine rd (by rfl) (ex_load1 26 Tryz.isAgg26 rfl rfl (unhide HP) rfl) ?_; simp only [Act.put, nzA, nzB, nzC]) | (refine rd (by rfl) (ex_load1 28 Tryz.isAgg28 rfl rfl (unhide HP) rfl) ?_; simp only [Act.put, nzA, nzB, nzC]) | (refine rd (by rfl) (ex_load1 3 Tryz.isAgg3 rfl rfl ((unhide LL).get 0 rfl) rfl) ?_; simp only [Act.put, nzA, nzB, nzC]))
  refine wp_region_held_drew (P := Tryz.prog) (S := fun _ => True) (by kernel_rfl) trivial (fun hS0 => ?_)
  refine gsem 0 (some 146) (.pointer (some ⟨S.P, 0, none⟩)) rfl (by kernel_rfl) (by kernel_rfl) (by kernel_rfl) (fun _ _ _ h => h) (by kernel_rfl) (by kernel_rfl) (fun _ _ => by kernel_rfl) trivial ?_
  simp only [Act.put, nzA, nzB, nzC]
  refine gsem 1 (some 147) (.pointer (some ⟨S.T0.t, 0, none⟩)) rfl (by kernel_rfl) (by kernel_rfl) (by kernel_rfl) (fun _ _ _ h => h) (by kernel_rfl) (by kernel_rfl) (fun _ _ => by kernel_rfl) trivial ?_
  simp only [Act.put, nzA, nzB, nzC]
  refine gsem 3 (some 149) (.pointer (some ⟨S.P, 0, none⟩)) rfl (by kernel_rfl) (by kernel_rfl) (by kernel_rfl) (fun _ _ _ h => h) (by kernel_rfl) (by kernel_rfl) (fun _ _ => by kernel_rfl) trivial ?_
  simp only [Act.put, nzA, nzB, nzC]
  refine gsem 4 (some 150) (.pointer (some ⟨S.P, 0, none⟩)) rfl (by kernel_rfl) (by kernel_rfl) (by kernel_rfl) (fun _ _ _ h => h) (by kernel_rfl) (by kernel_rfl) (fun _ _ => by kernel_rfl) trivial ?_
  simp only [Act.put, nzA, nzB, nzC]
  refine wpAnyH_ready (rs := [2]) (by kernel_rfl) (by simp) (gcallR 2 (some 148) rfl (by kernel_rfl) (by kernel_rfl) (by kernel_rfl) (clone24 S.T0 w1.drew (unhide HS).bs.t0.drew (by have := (unhide HS).last.1; omega)) ?_ AllReadyH.nil)
  rintro _ w2 ⟨C, rfl, hC, hCl, hCn, hCb, hb2⟩
  refine ⟨_, rfl, trivial, ?_⟩
  simp only [Act.put, nzA, nzB, nzC]
  refine gsem 5 (some 151) (.pointer (some ⟨S.P, 1, none⟩)) rfl (by kernel_rfl) (by kernel_rfl) (by kernel_rfl) (fun _ _ _ h => h) (by kernel_rfl) (by kernel_rfl) (fun _ _ => by kernel_rfl) trivial ?_
  simp only [Act.put, nzA, nzB, nzC]
  have hP2 : Holds w2 S.P [.pointer (some ⟨S.T0.t, 0, none⟩), .pointer (some ⟨S.T1.t, 0, none⟩), .pointer (some ⟨S.R0.t, 0, none⟩), .pointer (some ⟨S.R1.t, 0, none⟩), .int .i64 S.left] := ((unhide HP).block (W1 := w1.drew) rfl).block (hb2.block _ ((unhide HP).lt (by simp [PS.cs, pairCs])))
  have hPl : S.P < w1.heap.size := (unhide HP).lt (by simp [PS.cs, pairCs])
  have hCC : ∀ b ∈ C.blocks, w1.heap.size ≤ b ∧ b < w2.heap.size := fun b hb => ⟨hCb b hb, hC.lt b hb⟩
  refine wpAnyH_ready (rs := [6]) (by kernel_rfl) (by simp) (gskp 6 none rfl (by kernel_rfl) (by kernel_rfl) (ex_store (t := 26) (vs := [.pointer (some ⟨C.t, 0, none⟩)]) rfl rfl rfl rfl (by simp [Value.oneCell']) siz26 hP2 (by simp)) trivial ?_ AllReadyH.nil)
  have hf3 : Fr w1 (w2.setCells S.P 1 [.pointer (some ⟨C.t, 0, none⟩)]) [S.P] := (Fr.of_below (below_dr (Below.refl w1.heap.size w1)) [S.P]).trans ((Fr.of_below hb2 [S.P]).trans (Fr.setCells _ _ _ _) (fun b hb => .inl hb)) (fun b hb => .inl hb)
  have hP3 : Holds (w2.setCells S.P 1 [.pointer (some ⟨C.t, 0, none⟩)]) S.P [.pointer (some ⟨S.T0.t, 0, none⟩), .pointer (some ⟨C.t, 0, none⟩), .pointer (some ⟨S.R0.t, 0, none⟩), .pointer (some ⟨S.R1.t, 0, none⟩), .int .i64 S.left] := hP2.put 1 [.pointer (some ⟨C.t, 0, none⟩)] (by simp)
  have hC3 : C.Is (w2.setCells S.P 1 [.pointer (some ⟨C.t, 0, none⟩)]) := hC.fr (Fr.setCells _ _ _ _) (fun b hb hm => by obtain rfl : b = S.P := (by simpa using hm); have := (hCC _ hb).1; omega)
  have hz3 : (w2.setCells S.P 1 [.pointer (some ⟨C.t, 0, none⟩)]).heap.size = w2.heap.size := size_setCells _ _ _
  generalize w2.setCells S.P 1 [.pointer (some ⟨C.t, 0, none⟩)] = w3 at *
  simp only [Act.put, nzA, nzB, nzC]
  refine wpAnyH_done (by kernel_rfl) ?_ _
  try simp only [Act.put, nzA, nzB, nzC]
  have H3 := hide (And.intro hP3 (And.intro hC3 (And.intro hf3 (And.intro hz3 (And.intro hCC (And.intro hCl (And.intro hCn hb2.size)))))))
  clear hP2 hP3 hC3 hf3 hz3 hCC hCl hCn hC hCb hb2
  go_wp2
  refine wp_region_held_drew (P := Tryz.prog) (S := fun _ => True) (by kernel_rfl) trivial (fun hS0 => ?_)
  refine gsem 0 (some 152) (.pointer (some ⟨S.P, 0, none⟩)) rfl (by kernel_rfl) (by kernel_rfl) (by kernel_rfl) (fun _ _ _ h => h) (by kernel_rfl) (by kernel_rfl) (fun _ _ => by kernel_rfl) trivial ?_
  simp only [Act.put, nzA, nzB, nzC]
  refine gsem 1 (some 153) (.pointer (some ⟨S.R0.t, 0, none⟩)) rfl (by kernel_rfl) (by kernel_rfl) (by kernel_rfl) (fun _ _ _ h => h) (by kernel_rfl) (by kernel_rfl) (fun _ _ => by kernel_rfl) trivial ?_
  simp only [Act.put, nzA, nzB, nzC]
  refine gsem 3 (some 155) (.pointer (some ⟨S.P, 0, none⟩)) rfl (by kernel_rfl) (by kernel_rfl) (by kernel_rfl) (fun _ _ _ h => h) (by kernel_rfl) (by kernel_rfl) (fun _ _ => by kernel_rfl) trivial ?_
  simp only [Act.put, nzA, nzB, nzC]
  refine gsem 4 (some 156) (.pointer (some ⟨S.P, 2, none⟩)) rfl (by kernel_rfl) (by kernel_rfl) (by kernel_rfl) (fun _ _ _ h => h) (by kernel_rfl) (by kernel_rfl) (fun _ _ => by kernel_rfl) trivial ?_
  simp only [Act.put, nzA, nzB, nzC]
  refine wpAnyH_ready (rs := [2]) (by kernel_rfl) (by simp) (gcallR 2 (some 154) rfl (by kernel_rfl) (by kernel_rfl) (by kernel_rfl) (refClone25 S.R0 w3.drew (((unhide HS).bs.r0.fr (unhide H3).2.2.1 (fun b hb hm => by obtain rfl : b = S.P := (by simpa using hm); exact (unhide HS).bs.d 0 3 _ _ rfl rfl (by omega) S.P (by simp) hb)).drew) (by have := (unhide HS).es0; omega)) ?_ AllReadyH.nil)
  rintro _ w4 ⟨R', rfl, hR, hRe, hRn, hRb, hb4⟩
  refine ⟨_, rfl, trivial, ?_⟩
  simp only [Act.put, nzA, nzB, nzC]
  refine gsem 5 (some 157) (.pointer (some ⟨S.P, 3, none⟩)) rfl (by kernel_rfl) (by kernel_rfl) (by kernel_rfl) (fun _ _ _ h => h) (by kernel_rfl) (by kernel_rfl) (fun _ _ => by kernel_rfl) trivial ?_
  simp only [Act.put, nzA, nzB, nzC]
  obtain ⟨hP3, hC3, hf3, hz3, hCC, hCl, hCn, hz2⟩ := unhide H3
  have hz1 := (unhide HB1).size
  have hdz : w1.drew.heap.size = w1.heap.size := rfl
  have hP4 : Holds w4 S.P [.pointer (some ⟨S.T0.t, 0, none⟩), .pointer (some ⟨C.t, 0, none⟩), .pointer (some ⟨S.R0.t, 0, none⟩), .pointer (some ⟨S.R1.t, 0, none⟩), .int .i64 S.left] := (hP3.block (W1 := w3.drew) rfl).block (hb4.block _ (hP3.lt (by simp)))
  have hC4 : C.Is w4 := hC3.drew.on hb4
  refine wpAnyH_ready (rs := [6]) (by kernel_rfl) (by simp) (gskp 6 none rfl (by kernel_rfl) (by kernel_rfl) (ex_store (t := 28) (vs := [.pointer (some ⟨R'.t, 0, none⟩)]) rfl rfl rfl rfl (by simp [Value.oneCell']) siz28 hP4 (by simp)) trivial ?_ AllReadyH.nil)
  have hs4 : w3.heap.size ≤ w4.heap.size := hb4.size
  have hR4 : ∀ b ∈ R'.blocks, w3.heap.size ≤ b := hRb
  have hf5 : Fr w1 (w4.setCells S.P 3 [.pointer (some ⟨R'.t, 0, none⟩)]) [S.P] := hf3.trans ((Fr.of_below (below_dr (Below.refl w3.heap.size w3)) [S.P]).trans ((Fr.of_below hb4 [S.P]).trans (Fr.setCells _ _ _ _) (fun b hb => .inl hb)) (fun b hb => .inl hb)) (fun b hb => .inl hb)
  have hP5 : Holds (w4.setCells S.P 3 [.pointer (some ⟨R'.t, 0, none⟩)]) S.P [.pointer (some ⟨S.T0.t, 0, none⟩), .pointer (some ⟨C.t, 0, none⟩), .pointer (some ⟨S.R0.t, 0, none⟩), .pointer (some ⟨R'.t, 0, none⟩), .int .i64 S.left] := hP4.put 3 [.pointer (some ⟨R'.t, 0, none⟩)] (by simp)
  have hC5 : C.Is (w4.setCells S.P 3 [.pointer (some ⟨R'.t, 0, none⟩)]) := hC4.fr (Fr.setCells _ _ _ _) (fun b hb hm => by obtain rfl : b = S.P := (by simpa using hm); have := (hCC _ hb).1; omega)
  have hR5 : R'.Is (w4.setCells S.P 3 [.pointer (some ⟨R'.t, 0, none⟩)]) := hR.fr (Fr.setCells _ _ _ _) (fun b hb hm => by obtain rfl : b = S.P := (by simpa using hm); have := hR4 _ hb; omega)
  have FIN := (unhide HS).cloned (m := w2.heap.size) hf5 hC5 hR5 hCC (fun b hb => by have := hR4 b hb; omega) hz2 hCl hCn hRe hRn hP5
  generalize w4.setCells S.P 3 [.pointer (some ⟨R'.t, 0, none⟩)] = w5 at *
  simp only [Act.put, nzA, nzB, nzC]
  refine wpAnyH_done (by kernel_rfl) ?_ _
  try simp only [Act.put, nzA, nzB, nzC]
  have HF := hide FIN
  have HP5 := hide hP5
  clear FIN hP5 hR5 hC5 hf5 hR4 hs4 hC4 hP4 hP3 hC3 hf3 hz3 hCC hCl hCn hz2 hR hRe hRn hRb hb4 H3 hz1 hdz
  go_wp2_with (first | go_skip | (refine rd (by rfl) (ex_load1 26 Tryz.isAgg26 rfl rfl (unhide HP5) rfl) ?_; simp only [Act.put, nzA, nzB, nzC]))
  obtain ⟨hS5, hW5⟩ := unhide HF
  have hWw := (Went.refl S (unhide HB1)).trans hW5
  have hbb : Below base w w5 := hWw.below (unhide HS).bs (unhide HBZ)
  refine (tells9_1 C R' S.P S.T0.t S.R0.t S.left w5 (unhide HP5) hS5.bs.t1 hS5.bs.r1 hS5.rel1 (by have := hS5.last.2; simp only at this; omega) (by have := hS5.live1; simp only at this; omega) ((unhide HU) _ hbb) ((unhide HPf) _ hbb)).mono ?_
  rintro _ w6 ⟨rfl, hb6⟩
  have FIN := hide (And.intro (hS5.on hb6) (hWw.trans (Went.refl _ hb6)))
  clear hS5 hW5 hWw hbb hb6 HF
  go_wp2
  go_ret
  exact ⟨rfl, _, (unhide FIN).1, (unhide FIN).2⟩
theorem Rel.nil {T : TT} {R : RT} (h1 : T.rows = []) (h2 : R.es = []) : Rel T R := by
  unfold Rel TT.live
  rw [h1, h2]
  rfl
theorem newPair (w : World) (h4 : 4 ≤ w.heap.size) : Calls Tryz.prog 7 #[] w fun e w' => ∃ S : PS, e = .returned (.pointer (some ⟨S.P, 0, none⟩)) ∧ S.Is w' w.heap.size 0 ∧ S.left = 4000 ∧ S.C = [] ∧ Below w.heap.size w w' := by
  refine (newPair7 w).mono ?_
  rintro e w' ⟨T0, T1, R0, R1, P, rfl, hP, hT0, hT1, hR0, hR1, e0, e1, l0, l1, s0, s1, n0, n1, d0, d1, d2, d3, hPb, hb⟩
  refine ⟨⟨P, T0, T1, R0, R1, 4000, []⟩, rfl, ⟨⟨hP, hT0, hT1, hR0, hR1, ?_, ?_, h4, hb.size⟩, Rel.nil e0 s0, Rel.nil e1 s1, ⟨Nat.le_of_eq l0, Nat.le_of_eq l1⟩, ⟨Int.le_of_eq n0.symm, Int.le_of_eq n0, Int.le_of_eq n1.symm, Int.le_of_eq n1⟩, ⟨by unfold Ris; rw [s0]; simp, by unfold Ris; rw [s1]; simp⟩, fun c hc => by cases hc⟩, rfl, rfl, hb⟩
  · unfold PS.parts
    refine List.pairwise_cons.2 ⟨?_, List.pairwise_cons.2 ⟨?_, List.pairwise_cons.2 ⟨?_, List.pairwise_cons.2 ⟨?_, List.pairwise_cons.2 ⟨?_, List.Pairwise.nil⟩⟩⟩⟩⟩
    · intro B hB x hx hx'
      obtain rfl : x = P := by simpa using hx
      simp only [List.mem_cons, List.not_mem_nil, or_false] at hB
      rcases hB with rfl | rfl | rfl | rfl
      · exact (d0 x hx').2.2.2.2 rfl
      · exact (d1 x hx').2.2.2 rfl
      · exact (d2 x hx').2.2 rfl
      · exact (d3 x hx').2 rfl
    · intro B hB x hx hx'
      simp only [List.mem_cons, List.not_mem_nil, or_false] at hB
      rcases hB with rfl | rfl | rfl
      · exact (d0 x hx).2.1 hx'
      · exact (d0 x hx).2.2.1 hx'
      · exact (d0 x hx).2.2.2.1 hx'
    · intro B hB x hx hx'
      simp only [List.mem_cons, List.not_mem_nil, or_false] at hB
      rcases hB with rfl | rfl
      · exact (d1 x hx).2.1 hx'
      · exact (d1 x hx).2.2.1 hx'
    · intro B hB x hx hx'
      obtain rfl : B = R1.blocks := by simpa using hB
      exact (d2 x hx).2.1 hx'
    · intro B hB
      cases hB
  · intro B hB b hbB
    simp only [PS.parts, List.mem_cons, List.not_mem_nil, or_false] at hB
    rcases hB with rfl | rfl | rfl | rfl | rfl
    · obtain rfl : b = P := by simpa using hbB
      exact hPb
    · exact (d0 b hbB).1
    · exact (d1 b hbB).1
    · exact (d2 b hbB).1
    · exact (d3 b hbB).1

structure AA where
  kd : Int
  k : KK
  d : DD
  n : Int
  inner : Value
def AA.cs (x : AA) : List Value := actCs x.kd x.k x.d x.n x.inner
theorem play_any (S : PS) (x : AA) (w : World) (base N : Nat) (hS : S.Is w base N) (hN : N < 800000) (hU : ∀ X, Below base w X → Lib.Utf8Tabs 2 3 X) (hP : ∀ X, Below base w X → TabP X) (hk : OkK x.k) (h9 : x.kd ≠ 9) (hC : x.kd = 10 → S.C = []) (dep : Int) : Calls Tryz.prog 8 #[.pointer (some ⟨S.P, 0, none⟩), .agg x.cs.toArray, .int .i64 dep] w fun e w' => e = .returned (.bool true) ∧ ∃ S', S'.Is w' base (N + 1) ∧ Went S S' w w' := by
  obtain ⟨kd, k, d, n, inner⟩ := x
  have hU0 := hU w (Below.refl _ _)
  have hP0 := hP w (Below.refl _ _)
  show Calls Tryz.prog 8 #[.pointer (some ⟨S.P, 0, none⟩), actV kd k d n inner, .int .i64 dep] w _
  simp only at hk h9 hC
  by_cases h1 : kd = 1
  · subst h1
    exact play_put S k d n inner dep w base N hS hN hU0 hk
  by_cases h2 : kd = 2
  · subst h2
    exact play_delete S k d n inner dep w base N hS hN hk
  by_cases h3 : kd = 3
  · subst h3
    exact play_clear S k d n inner dep w base N hS hN
  by_cases h4 : kd = 4
  · subst h4
    exact play_compact S k d n inner dep w base N hS hN
  by_cases h5 : kd = 5
  · subst h5
    refine (play_get S k d n inner dep w base N hS hN hk).mono ?_
    rintro e w' ⟨rfl, hb⟩
    exact ⟨rfl, S, (hS.on hb).mono (Nat.le_succ _), Went.refl S hb⟩
  by_cases h6 : kd = 6
  · subst h6
    by_cases hn : n < 0 ∨ (S.T0.live.length : Int) ≤ n
    · exact play_at_out S k d inner dep w base N hS hN n hn
    · obtain ⟨j, rfl⟩ : ∃ j : Nat, n = (j : Int) := ⟨n.toNat, by omega⟩
      exact play_at_in S k d inner dep w base N hS hN j (by omega)
  by_cases h7 : kd = 7
  · subst h7
    exact play_tell S k d n inner dep w base N hS hN hU0 hP0
  by_cases h8 : kd = 8
  · subst h8
    exact play_clone S k d n inner dep w base N hS hN hU hP
  by_cases h10 : kd = 10
  · subst h10
    exact play_swap S k d n inner dep w base N hS hN (hC rfl)
  exact play_other kd S k d n inner dep w base N hS hN h1 h2 h3 h4 h5 h6 h7 h8 h9 h10
theorem few6 (A : Option Addr) (n c : Nat) (w : World) : Calls Tryz.prog 6 #[.slice A n c] w fun e w' => e = .returned (.bool (decide ((n : Int) ≤ 400))) ∧ w' = w := by
  go_enter Tryz.func6, Tryz.ntmps6
  go_wp2
  go_ret
  exact ⟨rfl, rfl⟩
theorem index22 (g off n cap j : Nat) (hj : j < n) (w : World) : (Instr.indexAt 22 (.slice (some ⟨g, off, none⟩) n cap) (.int .i64 j)).run Tryz.prog w = .ok (.pointer (some ⟨g, off + j * 23, none⟩)) w := by
  rw [run_indexAt_slice (h := by kernel_rfl), if_pos ⟨by omega, by omega⟩]
  have e : (sizeOf (Tryz.prog.elem 22)).run Tryz.prog w = .ok 23 w := by kernel_rfl
  rw [e]
  have e2 : (Addr.add ⟨g, off, none⟩ ((j : Int).toNat * 23)) = ⟨g, off + j * 23, none⟩ := by
    rw [Addr.add_mid]
    simp
  show Result.ok (Value.pointer (some (Addr.add ⟨g, off, none⟩ ((j : Int).toNat * 23)))) w = _
  rw [e2]
theorem ex_index22 {o : Oper} {a : Act} {w : World} {x ix : Operand} {g off n cap : Nat} (j : Nat) (ho : o.op = .indexAddr 22 x ix) (hx : a.eval x = .slice (some ⟨g, off, none⟩) n cap) (hix : a.eval ix = .int .i64 j) (hj : j < n) : (execOp a.eval o).run Tryz.prog w = .ok (.value (.pointer (some ⟨g, off + j * 23, none⟩))) w := by
  unfold execOp
  simp only [ho, hx, hix]
  have := index22 g off n cap j hj w
  simp [this]
theorem tell_all (S : PS) (w : World) (base N : Nat) (hS : S.Is w base N) (hN : N < 800000) (hU : Lib.Utf8Tabs 2 3 w) (hP : TabP w) : Calls Tryz.prog 9 #[.pointer (some ⟨S.P, 0, none⟩), .int .i64 0] w fun e w' => e = .returned (.bool true) ∧ Below w.heap.size w w' :=
  tells9_0 S.T0 S.R0 S.P S.T1.t S.R1.t S.left w hS.bs.hold hS.bs.t0 hS.bs.r0 hS.rel0 (by have := hS.last.1; omega) (by have := hS.live0; omega) hU hP
theorem tell_all1 (S : PS) (w : World) (base N : Nat) (hS : S.Is w base N) (hN : N < 800000) (hU : Lib.Utf8Tabs 2 3 w) (hP : TabP w) : Calls Tryz.prog 9 #[.pointer (some ⟨S.P, 0, none⟩), .int .i64 1] w fun e w' => e = .returned (.bool true) ∧ Below w.heap.size w w' :=
  tells9_1 S.T1 S.R1 S.P S.T0.t S.R0.t S.left w hS.bs.hold hS.bs.t1 hS.bs.r1 hS.rel1 (by have := hS.last.2; omega) (by have := hS.live1; omega) hU hP
