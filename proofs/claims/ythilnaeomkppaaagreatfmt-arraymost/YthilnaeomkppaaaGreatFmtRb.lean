import Derived.Test.YthilnaeomkppaaaGreatFmtRa
set_option linter.all false
namespace Go.Proofs.YthilnaeomkppaaaGreatFmt
set_option maxHeartbeats 1000000
section
open Go Go.Proofs Go.Maps Go.RowKit
theorem own_holds {w : World} {base e s n g c : Nat} {xs : List Value} (h : w.ownsRow base e s (.slice (some ⟨g, 0, none⟩) n c) n xs) : Holds w g xs := by
  refine ⟨fun j => ?_, fun j u hu => ?_⟩
  · rcases h.2 with ⟨h1, -⟩ | ⟨g', cap, cur, h1, h2, h3, -⟩
    · cases h1
    · cases h1
      simp [World.frozen?, h3]
  · have := h.cells (g := g) rfl j u hu
    rwa [Addr.add_mid] at this
theorem TT.find_none {T : TT} {k : KK} (h : T.find k = none) : ∀ r ∈ T.live, r.k ≠ k := by
  intro r hr
  have := List.find?_eq_none.1 h r hr
  simpa using this
theorem pair_inj {α β : Type} {f : α → β} {l : List α} (h : l.Pairwise (fun a b => f a ≠ f b)) {a b : α} (ha : a ∈ l) (hb : b ∈ l) (he : f a = f b) : a = b := by
  induction l with
  | nil => cases ha
  | cons x l ih =>
    obtain ⟨h1, h2⟩ := List.pairwise_cons.1 h
    rcases List.mem_cons.1 ha with e1 | ha'
    · rcases List.mem_cons.1 hb with e2 | hb'
      · rw [e1, e2]
      · rw [e1] at he
        exact absurd he (h1 b hb')
    · rcases List.mem_cons.1 hb with e2 | hb'
      · rw [e2] at he
        exact absurd he.symm (h1 a ha')
      · exact ih h2 ha' hb'
set_option linter.unusedSimpArgs false
set_option linter.unusedVariables false
set_option maxHeartbeats 1000000
theorem own_some {w : World} {base e s n : Nat} {A : Option Addr} {c : Nat} {xs : List Value} (h : w.ownsRow base e s (.slice A n c) n xs) (hn : 0 < n) : ∃ g, A = some ⟨g, 0, none⟩ ∧ base ≤ g ∧ g < w.heap.size := by
  rcases h.2 with ⟨h1, h2⟩ | ⟨g, cap, cur, h1, h2⟩
  · omega
  · have hA : A = some ⟨g, 0, none⟩ := by injection h1
    subst hA
    have := World.ownsRow.lt h g rfl
    exact ⟨g, rfl, this.1, this.2⟩
theorem ex_store {o : Oper} {a : Act} {w : World} {t : TypeId} {b p : Nat} {cs vs : List Value} {v : Value} {x y : Operand} (ho : o.op = .store t x y) (hx : a.eval x = .pointer (some ⟨b, p, none⟩)) (hy : a.eval y = v) (hv : v.cells.toList = vs) (h1 : ∀ u ∈ vs, u.oneCell' = true) (hi : (Tryz.prog.info? t).map (·.size) = some vs.length) (hH : Holds w b cs) (hp : p + vs.length ≤ cs.length) :
    (execOp a.eval o).run Tryz.prog w = .ok .skip (w.setCells b p vs) := by
  unfold execOp
  simp only [ho, hx, hy, Instr.storeAt, Instr.sureAddr, Sem.run_bind, Sem.run_pure, Result.andThen_ok, run_storeVar_any w b p t v vs hv (hH.there p vs.length hp) hi h1]
theorem ex_buildS {o : Oper} {a : Act} {w : World} {t e : TypeId} {size bytes : Nat} {z v : Value} {cs : List Value} {x : Operand} (ho : o.op = .buildSlice t 1 #[(0, x)]) (hx : a.eval x = v)
    (ht : Tryz.prog.underlying t = some (.slice e)) (hi : (Tryz.prog.info? e).map (fun i => (i.zero, i.size, i.bytes)) = some (some z, size, bytes)) (hs1 : size ≤ 100) (hv : v.cells.toList = cs) (hc : cs.length = size) (h0 : 0 < size) :
    (execOp a.eval o).run Tryz.prog w = .ok (.value (.slice (some ⟨w.heap.size, 0, none⟩) 1 1)) (w.alloc (Obj.cells cs.toArray e)) := by
  obtain ⟨i0, hi, hz0, hz1, hz2⟩ := info_parts hi
  have ev : v.cells = cs.toArray := by rw [← hv]
  have es : v.cells.size = size := by rw [ev]; simpa using hc
  have hr := run_buildSlice w t e 1 #[(0, v)] cs.toArray i0 _ ht hi hz0 (by rw [hz1]; omega) (by rw [hz1]; omega) (by
    rw [hz1, ← ev]
    exact fill_one size _ v (by simp) es)
  unfold execOp
  simp only [ho, List.map_toArray, List.map_cons, List.map_nil, hx]
  simp [hr]
/-- make of a slice of length nought. -/
theorem mk_any {ops : Array Oper} {rest : List Oper} {Q : Exit → Act → World → Prop} {w : World} {a : Act} {o : Oper} {t e : TypeId} {size bytes : Nat} {z : Value} {c x : Operand} (n : Nat) (hw : Region.wanted o (yielded ops a.tmps) = true) (ho : o.op = .makeSlice t c x) (hc : a.eval c = .int .i64 0) (hx : a.eval x = .int .i64 (n : Nat))
    (ht : Tryz.prog.underlying t = some (.slice e)) (hi : (Tryz.prog.info? e).map (fun i => (i.zero, i.size, i.bytes)) = some (some z, size, bytes)) (hn : n ≤ 100000) (hs : size ≤ 100) (hby : bytes ≤ 10000)
    (h : ∀ wm, wm.ownsRow w.heap.size e size (.slice (some ⟨w.heap.size, 0, none⟩) 0 n) 0 [] → Below w.heap.size w wm → wpList Tryz.prog ops Q rest (a.put o.dst (.slice (some ⟨w.heap.size, 0, none⟩) 0 n)) wm) : wpList Tryz.prog ops Q (o :: rest) a w := by
  obtain ⟨i0, hi, hz0, hz1, hz2⟩ := info_parts hi
  obtain ⟨wm, hrun, hm1, hm2⟩ := run_makeSlice_owned (P := Tryz.prog) w w.heap.size t e i0 _ size ht hi hz0 hz1 .i64 .i64 n (Nat.le_trans (Nat.mul_le_mul hn hs) (by decide)) (by rw [hz2]; exact Nat.le_trans (Nat.mul_le_mul hby hn) (by decide)) (by unfold maxLen; omega) (Nat.le_refl _)
  refine BigFrame.wpList_want hw fun K hK => ?_
  have hP := hK _ _ (h wm hm1 ⟨hm2.os, hm2.tape, hm2.output, hm2.size, fun k hk => hm2.block k hk (by simp)⟩)
  unfold Oper.wp execOp
  simp only [ho, hc, hx]
  simp [hrun]
  exact hP
def RR.pr (r : RR) : KK × DD := (r.k, r.d)
theorem stx {ops : Array Oper} {rest : List Oper} {Q : Exit → Act → World → Prop} {w : World} {a : Act} {o : Oper} {t : TypeId} {b p : Nat} {cs vs : List Value} {v : Value} {x y : Operand} (hw : Region.wanted o (yielded ops a.tmps) = true) (ho : o.op = .store t x y) (hx : a.eval x = .pointer (some ⟨b, p, none⟩)) (hy : a.eval y = v) (hv : v.cells.toList = vs) (h1 : ∀ u ∈ vs, u.oneCell' = true) (hi : (Tryz.prog.info? t).map (·.size) = some vs.length) (hH : Holds w b cs) (hp : p + vs.length ≤ cs.length)
    (h : wpList Tryz.prog ops Q rest (a.put o.dst undef) (w.setCells b p vs)) : wpList Tryz.prog ops Q (o :: rest) a w := by
  refine BigFrame.wpList_want hw fun K hK => ?_
  have hP := hK _ _ h
  unfold Oper.wp
  rw [ex_store ho hx hy hv h1 hi hH hp]
  exact hP
theorem good_ok {k : KK} (h : goodK k = true) : OkK k := by
  have h1 := goodK_size h
  have h2 := goodK_n h
  refine ⟨by unfold maxLen; omega, ?_⟩
  show (decide (IntKind.i64.min ≤ k.n) && decide (k.n ≤ IntKind.i64.max)) = true
  have e1 : IntKind.i64.min = -9223372036854775808 := by decide
  have e2 : IntKind.i64.max = 9223372036854775807 := by decide
  rw [e1, e2, Bool.and_eq_true]
  exact ⟨decide_eq_true (by omega), decide_eq_true (by omega)⟩
/-- A row that is gone. -/
def goneR (r : RR) : RR := ⟨r.b, zeroK, zeroD, r.n, true⟩
theorem ex_build77g {o : Oper} {a : Act} {w : World} {x c : Operand} {n : Nat} (ho : o.op = .build 119 #[(1, x), (2, c)]) (hx : a.eval x = .int .u64 (n : Nat)) (hc : a.eval c = .bool true) : (execOp a.eval o).run Tryz.prog w = .ok (.value (.agg (RR.mk 0 zeroK zeroD n true).cs.toArray)) w := by
  have e : (Instr.build 119 #[(1, .int .u64 (n : Nat)), (2, .bool true)]).run Tryz.prog w = .ok (.agg (RR.mk 0 zeroK zeroD n true).cs.toArray) w := by kernel_rfl
  unfold execOp
  simp only [ho, List.map_toArray, List.map_cons, List.map_nil, hx, hc]
  simp [e]
theorem siz77 (r : RR) : (Tryz.prog.info? 119).map (·.size) = some r.cs.length := by rw [rcs_length]; kernel_rfl
theorem one77 (r : RR) : ∀ u ∈ r.cs, u.oneCell' = true := by simp [RR.cs, KK.cs, DD.cs, VV.cs, Value.oneCell']
theorem leave37 (r : RR) (w : World) (h : Holds w r.b r.cs) : Calls Tryz.prog 161 #[.pointer (some ⟨r.b, 0, none⟩)] w fun e w' => e = .returned (.tuple #[]) ∧ Holds w' r.b (goneR r).cs ∧ Fr w w' [r.b] := by
  have HH := hide h
  clear h
  go_enter Tryz.func161, Tryz.ntmps161
  go_wp2_with (first | go_skip | ((with_reducible show wpList _ _ _ _ _ _); first | ((refine rd (by rfl) (ex_load1 78 Tryz.isAgg78 rfl rfl (unhide HH) rfl) ?_); simp only [Act.put, List.setIfInBounds_toArray, List.set_cons_succ, List.set_cons_zero]) | ((refine rd (by rfl) (ex_build77g rfl rfl rfl) ?_); simp only [Act.put, List.setIfInBounds_toArray, List.set_cons_succ, List.set_cons_zero]) | ((with_reducible apply stx (t := 119) (b := r.b) (p := 0) (cs := r.cs) (vs := (RR.mk 0 zeroK zeroD r.n true).cs) (v := .agg (RR.mk 0 zeroK zeroD r.n true).cs.toArray)); (case hw => rfl); (case ho => rfl); (case hx => rfl); (case hy => rfl); (case hv => exact rfl); (case h1 => exact one77 _); (case hi => exact siz77 _); (case hH => exact unhide HH); (case hp => exact (by simp [rcs_length])); simp only [Act.put, List.setIfInBounds_toArray, List.set_cons_succ, List.set_cons_zero])))
  go_end0
  refine ⟨rfl, ?_, Fr.setCells _ _ _ _⟩
  have := (unhide HH).put 0 (RR.mk 0 zeroK zeroD r.n true).cs (by simp [rcs_length])
  exact this
theorem own_mono {w : World} {base base' e s n : Nat} {v : Value} {xs : List Value} (h : w.ownsRow base e s v n xs) (hb : base' ≤ base) : w.ownsRow base' e s v n xs := by
  obtain ⟨h1, h2⟩ := h
  refine ⟨h1, ?_⟩
  rcases h2 with h2 | ⟨g, cap, cur, rfl, h3, h4⟩
  · exact .inl h2
  · exact .inr ⟨g, cap, cur, rfl, Nat.le_trans hb h3, h4⟩
/-- The table with the rows that stand alone. -/
def TT.packed (T : TT) (m : Nat) (rv : Value) : TT := ⟨T.t, m, rv, T.live, T.last⟩
theorem TT.packed_live (T : TT) (m : Nat) (rv : Value) : (T.packed m rv).live = T.live := by
  unfold TT.packed TT.live
  simp
theorem TT.packed_find (T : TT) (m : Nat) (rv : Value) (k : KK) : (T.packed m rv).find k = T.find k := by
  unfold TT.find
  rw [TT.packed_live]
theorem TT.live_rows {T : TT} (h : T.rows.length - T.live.length = 0) : T.live = T.rows := by
  have h1 := T.live_le
  unfold TT.live at *
  rw [List.filter_eq_self]
  exact List.length_filter_eq_length_iff.1 (by omega)
structure TApart (T : TT) : Prop where
  tm : T.t ≠ T.m
  tv : ∀ g, T.rv.ownBlock = some g → g ≠ T.t ∧ g ≠ T.m ∧ g ∉ T.rows.map (·.b)
  tr : T.t ∉ T.rows.map (·.b)
  mr : T.m ∉ T.rows.map (·.b)
  rr : (T.rows.map (·.b)).Nodup
theorem TT.apart {T : TT} (h : T.blocks.Nodup) : TApart T := by
  unfold TT.blocks at h
  rw [List.nodup_cons, List.nodup_cons, List.nodup_append] at h
  obtain ⟨h1, h2, h3, h4, h5⟩ := h
  simp only [List.mem_cons, List.mem_append, not_or] at h1 h2
  refine ⟨h1.1, fun g hg => ⟨fun e => h1.2.1 (by rw [hg, e]; simp), fun e => h2.1 (by rw [hg, e]; simp), fun hm => h5 g (by rw [hg]; simp) g hm rfl⟩, h1.2.2, h2.2, h4⟩
theorem TApart.nodup {T : TT} (h : TApart T) : T.blocks.Nodup := by
  unfold TT.blocks
  rw [List.nodup_cons, List.nodup_cons, List.nodup_append]
  refine ⟨?_, ?_, ?_, h.rr, ?_⟩
  · simp only [List.mem_cons, List.mem_append, not_or]
    refine ⟨h.tm, fun hm => ?_, h.tr⟩
    exact (h.tv T.t (by simpa using hm)).1 rfl
  · simp only [List.mem_append, not_or]
    exact ⟨fun hm => (h.tv T.m (by simpa using hm)).2.1 rfl, h.mr⟩
  · cases T.rv.ownBlock <;> simp
  · intro a ha b hb e
    subst e
    exact (h.tv a (by simpa using ha)).2.2 hb
theorem live_sub (T : TT) : ∀ b ∈ T.live.map (·.b), b ∈ T.rows.map (·.b) := by
  intro b hb
  obtain ⟨r, hr, rfl⟩ := List.mem_map.1 hb
  exact List.mem_map.2 ⟨r, (List.mem_filter.1 hr).1, rfl⟩
theorem TApart.packed {T : TT} (h : TApart T) {m : Nat} {rv : Value} (hm : m = T.m ∨ m ∉ T.blocks) (hv : ∀ g, rv.ownBlock = some g → (T.rv.ownBlock = some g ∨ g ∉ T.blocks) ∧ g ≠ m) : TApart (T.packed m rv) := by
  have hmt : T.t ≠ m := by
    rcases hm with rfl | hm
    · exact h.tm
    · intro e; exact hm (by rw [← e]; simp [TT.blocks])
  have hrb : ∀ b ∈ T.rows.map (·.b), b ∈ T.blocks := fun b hb => by
    unfold TT.blocks
    simp only [List.mem_cons, List.mem_append]
    exact .inr (.inr (.inr hb))
  refine ⟨hmt, fun g hg => ⟨?_, (hv g hg).2, ?_⟩, fun hx => h.tr (live_sub T _ hx), fun hx => ?_, ?_⟩
  · intro e
    rcases (hv g hg).1 with h1 | h1
    · exact (h.tv g h1).1 e
    · exact h1 (by rw [e]; simp [TT.blocks, TT.packed])
  · intro hx
    rcases (hv g hg).1 with h1 | h1
    · exact (h.tv g h1).2.2 (live_sub T _ hx)
    · exact h1 (hrb _ (live_sub T _ hx))
  · rcases hm with rfl | hm
    · exact h.mr (live_sub T _ hx)
    · exact hm (hrb _ (live_sub T _ hx))
  · exact List.Sublist.nodup (List.Sublist.map _ List.filter_sublist) h.rr
theorem TT.Is.pack {T : TT} {w X : World} {m : Nat} {rv : Value} (hT : T.Is w) (htab : Holds X T.t [.map (some m), rv, .int .u64 T.last]) (hmap : MapIs X m T.last T.live.length (fun k => (T.find k).map (·.b))) (hown : OwnP X rv (T.live.map (·.b))) (hrows : ∀ r ∈ T.live, Holds X r.b r.cs)
    (hm : m = T.m ∨ m ∉ T.blocks) (hv : ∀ g, rv.ownBlock = some g → (T.rv.ownBlock = some g ∨ g ∉ T.blocks) ∧ g ≠ m) : (T.packed m rv).Is X := by
  have hf : (fun k => ((T.packed m rv).find k).map (·.b)) = (fun k => (T.find k).map (·.b)) := by
    funext k
    rw [TT.packed_find]
  refine ⟨htab, ?_, hown, hrows, ((TT.apart hT.nd).packed hm hv).nodup, hT.rise.sublist List.filter_sublist, fun r hr => hT.num r (List.mem_filter.1 hr).1, ?_, ?_⟩
  · rw [hf, TT.packed_live]
    exact hmap
  · rw [TT.packed_live]
    exact hT.keys
  · rw [TT.packed_live]
    exact hT.good
theorem one1 (v : Value) (h : v.oneCell' = true) : ∀ u ∈ [v], u.oneCell' = true := by
  intro u hu
  obtain rfl : u = v := by simpa using hu
  exact h
theorem rows_pair {T : TT} (h : TApart T) : T.rows.Pairwise (fun a b => a.b ≠ b.b) := by
  have := h.rr
  unfold List.Nodup at this
  rwa [List.pairwise_map] at this
theorem live_mem {T : TT} {r : RR} (h : r ∈ T.live) : r ∈ T.rows := (List.mem_filter.1 h).1
/-- Of the rows that stand: the one block is the one key's. -/
theorem block_key {T : TT} {w : World} (hT : T.Is w) {r q : RR} (hr : r ∈ T.live) (hq : q ∈ T.live) : q.b = r.b ↔ q.k = r.k := by
  constructor
  · intro e
    rw [pair_inj (f := RR.b) (rows_pair (TT.apart hT.nd)) (live_mem hq) (live_mem hr) e]
  · intro e
    rw [pair_inj (f := RR.k) hT.keys hq hr e]
