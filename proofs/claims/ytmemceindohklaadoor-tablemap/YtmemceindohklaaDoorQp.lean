import Derived.Test.YtmemceindohklaaDoorQo
import Derived.Test.YtmemceindohklaaDoorQn
import Derived.Laws.OwnMore

/-! Nh -/
namespace Go.Proofs.YtmemceindohklaaDoor
open Go Go.Proofs Go.Maps Go.RowKit
set_option linter.unusedSimpArgs false
set_option linter.unusedVariables false
set_option maxHeartbeats 1000000
def errOf (k : KK) : Int := if goodK k then 0 else 5
/-- What Put makes of the program's table. -/
def PutT (T : TT) (k : KK) (d : DD) (T' : TT) : Prop := (∃ r, T.find k = some r ∧ T' = T.upd r.b d) ∨ (T.find k = none ∧ goodK k = true ∧ ∃ rv R, T' = T.added rv R k d) ∨ (T.find k = none ∧ goodK k = false ∧ T' = T)
theorem PutT.last {T T' : TT} {k : KK} {d : DD} (h : PutT T k d T') : T'.last ≤ T.last + 1 := by
  rcases h with ⟨r, h1, rfl⟩ | ⟨h1, h2, rv, B, rfl⟩ | ⟨h1, h2, rfl⟩
  · exact Nat.le_succ _
  · exact Nat.le_refl _
  · exact Nat.le_succ _
def actCs (kd : Int) (k : KK) (d : DD) (n : Int) (inner : Value) : List Value := .int .i64 kd :: (k.cs ++ (d.cs ++ [.int .i64 n, inner]))
def actV (kd : Int) (k : KK) (d : DD) (n : Int) (inner : Value) : Value := .agg (actCs kd k d n inner).toArray
theorem num11 (n : Int) (h : 0 ≤ n ∧ n ≤ 1000) (w : World) : Calls Tryd.prog 11 #[.int .i64 n] w fun e w' => e = .returned (.int .i64 n) ∧ Below w.heap.size w w' := by
  have hw : IntKind.i64.wrap n = n := by rw [IntKind.wrap_i64]; omega
  go_enter Tryd.func11, Tryd.ntmps11
  go_wp2
  go_ret
  exact ⟨rfl, Below.refl _ _⟩
theorem eqlI (n : Int) (w : World) : (binOp .eql 3 (.int .i64 n) (.int .i64 n)).run Tryd.prog w = .ok (.bool true) w := by
  simp [go_sem]
theorem errOf_le (k : KK) : 0 ≤ errOf k ∧ errOf k ≤ 1000 := by
  unfold errOf
  split <;> decide
theorem gcallR {md : Region.Mode} {ops : Array Oper} {Q : Exit → Act → World → Prop} {S : World → Prop} {w : World} {fuel : Nat} {listed : Array Bool} {a : Act} {o : Oper} (i : Nat) (dst : Option Tmp) {f : FuncId} {args : Array Value} {R : Ending → World → Prop} {rs : List Nat} (hi : ops[i]? = some o) (hd : o.dst = dst) (hw : Region.wanted o (yielded ops a.tmps) = true)
    (he : (execOp a.eval o).run Tryd.prog w = .ok (.enter f args) w) (hC : Calls Tryd.prog f args w R)
    (h : ∀ e X, R e X → ∃ V, e = .returned V ∧ S X ∧ wpAnyH Tryd.prog md ops Q S fuel (listed.setIfInBounds i true) (a.put dst V) X) (hs : AllReadyH Tryd.prog md ops Q S fuel listed a w rs) : AllReadyH Tryd.prog md ops Q S fuel listed a w (i :: rs) := by
  subst hd
  refine AllReadyH.cons hi (fun K hK => ?_) hs
  rw [if_pos hw]
  unfold Oper.wp
  rw [he, Oper.upon_enter]
  refine hC.mono ?_
  intro e X hR
  obtain ⟨V, rfl, hSX, hV⟩ := h e X hR
  exact hK.out _ _ hSX (fun _ => hV)
theorem row41 : ∃ d, Tryd.prog.underlying 42 = some d ∧ d.isRow = true := ⟨_, Tryd.underlying42, rfl⟩
theorem siz41 : (Tryd.prog.info? 42).map (·.size) = some 23 := by kernel_rfl
theorem put12e (T : TT) (k : KK) (d : DD) (w : World) (hT : T.Is w) (hU : Lib.Utf8Tabs 4 5 w) (hk : OkK k) (hl : T.last < 1000000) (hTT : ∀ b ∈ T.blocks, 6 ≤ b) : Calls Tryd.prog 12 #[.pointer (some ⟨T.t, 0, none⟩), k.agg, d.agg] w fun e w' => e = .returned (.int .i64 (errOf k)) ∧ ∃ T' : TT, T'.Is w' ∧ T'.t = T.t ∧ Fr w w' T.blocks ∧ (∀ b ∈ T'.blocks, b ∈ T.blocks ∨ w.heap.size ≤ b) ∧ PutT T k d T' := put12 T k d w hT hU hk hl hTT
theorem below_dr {n : Nat} {a w : World} (h : Below n a w) : Below n a w.drew := ⟨h.os, h.tape, h.output, h.size, h.block⟩
end Go.Proofs.YtmemceindohklaaDoor

/-! Oe -/
namespace Go.Proofs.YtmemceindohklaaDoor
open Go Go.Proofs Go.Maps Go.RowKit
set_option linter.unusedSimpArgs false
set_option linter.unusedVariables false
set_option maxHeartbeats 1000000
theorem ex_mm0 {o : Oper} {a : Act} {w : World} (ho : o.op = .makeMap 67 none) : (execOp a.eval o).run Tryd.prog w = .ok (.value (.map (some w.heap.size))) (w.alloc (.map #[] 0)) := by
  unfold execOp
  simp only [ho, Option.map_none]
  simp [run_makeMap]
theorem ex_build73 {o : Oper} {a : Act} {w : World} {x y : Operand} {M n : Nat} (ho : o.op = .build 71 #[(0, x), (2, y)]) (hx : a.eval x = .map (some M)) (hy : a.eval y = .int .u64 (n : Nat)) : (execOp a.eval o).run Tryd.prog w = .ok (.value (.agg [.map (some M), .slice none 0 0, .int .u64 (n : Nat)].toArray)) w := by
  have e : (Instr.build 71 #[(0, .map (some M)), (2, .int .u64 (n : Nat))]).run Tryd.prog w = .ok (.agg [.map (some M), .slice none 0 0, .int .u64 (n : Nat)].toArray) w := by kernel_rfl
  unfold execOp
  simp only [ho, List.map_toArray, List.map_cons, List.map_nil, hx, hy]
  simp [e]
theorem siz73 : (Tryd.prog.info? 71).map (·.size) = some 3 := by kernel_rfl
/-- What a call made of a table. -/
structure TT.To (T T' : TT) (w w' : World) : Prop where
  is : T'.Is w'
  t : T'.t = T.t
  last : T'.last = T.last
  fr : Fr w w' T.blocks
  new : ∀ b ∈ T'.blocks, b ∈ T.blocks ∨ w.heap.size ≤ b
theorem clear16 (T : TT) (w : World) (hT : T.Is w) : Calls Tryd.prog 14 #[.pointer (some ⟨T.t, 0, none⟩)] w fun e w' => e = .returned (.tuple #[]) ∧ ∃ T', TT.To T T' w w' ∧ T'.live = [] := by
  have HV : Hid (Holds w T.t [.map (some T.m), T.rv, .int .u64 T.last]) := hide hT.tab
  have HL := hide hT.lt
  have htl : T.t < w.heap.size := hT.lt T.t (by simp [TT.blocks])
  clear hT
  go_enter Tryd.func14, Tryd.ntmps14
  go_wp2_with (first | go_skip | ((with_reducible show wpList _ _ _ _ _ _); first | ((refine rd (by rfl) (ex_load1 69 Tryd.isAgg69 rfl rfl (unhide HV) rfl) ?_); simp only [Act.put, List.setIfInBounds_toArray, List.set_cons_succ, List.set_cons_zero]) | ((refine rd (by rfl) (ex_build73 rfl rfl rfl) ?_); simp only [Act.put, List.setIfInBounds_toArray, List.set_cons_succ, List.set_cons_zero]) | ((refine rdw (by rfl) (ex_mm0 rfl) ?_); obtain ⟨M, hM⟩ : ∃ M, M = w.heap.size := ⟨_, rfl⟩; obtain ⟨w2, hw2⟩ : ∃ w2, w2 = w.alloc (.map #[] 0) := ⟨_, rfl⟩; have HM := hide hM; have hb2 : Below w.heap.size w w2 := (by rw [hw2]; exact (Below.refl _ _).alloc (Nat.le_refl _) _); have HMP : Hid (MapIs w2 M 0 0 (fun _ => none)) := hide (by rw [hw2, hM]; exact MapIs.made w); rw [← hw2, ← hM]; replace HV := hide ((unhide HV).block (hb2.block T.t htl)); have HB2 := hide hb2; clear hw2 hM hb2; simp only [Act.put, List.setIfInBounds_toArray, List.set_cons_succ, List.set_cons_zero]) | ((with_reducible apply stx (t := 71) (b := T.t) (p := 0) (cs := [.map (some T.m), T.rv, .int .u64 T.last]) (vs := [.map (some M), .slice none 0 0, .int .u64 T.last]) (v := .agg [.map (some M), .slice none 0 0, .int .u64 T.last].toArray)); (case hw => rfl); (case ho => rfl); (case hx => rfl); (case hy => rfl); (case hv => exact rfl); (case h1 => exact (by simp [Value.oneCell'])); (case hi => exact siz73); (case hH => exact unhide HV); (case hp => exact (by simp)); (obtain ⟨w3, hw3⟩ : ∃ w3, w3 = w2.setCells T.t 0 [.map (some M), .slice none 0 0, .int .u64 T.last] := ⟨_, rfl⟩); (have HC : Hid (Holds w3 T.t [.map (some M), .slice none 0 0, .int .u64 T.last] ∧ MapIs w3 M 0 0 (fun _ => none) ∧ Fr w w3 [T.t]) := hide ⟨(by rw [hw3]; exact (unhide HV).put 0 [.map (some M), .slice none 0 0, .int .u64 T.last] (by simp)), (by rw [hw3]; exact (unhide HMP).block (heap_setCells _ _ _ _ _ (by have h1 := unhide HM; omega))), (by rw [hw3]; exact (Fr.of_below (unhide HB2) [T.t]).trans (Fr.setCells _ _ _ _) (fun b hb => .inl hb))⟩); rw [← hw3]; clear hw3; simp only [Act.put, List.setIfInBounds_toArray, List.set_cons_succ, List.set_cons_zero])))
  go_end0
  have hC := unhide HC
  refine ⟨rfl, ⟨T.t, M, .slice none 0 0, [], T.last⟩, ⟨⟨hC.1, ?_, OwnP.nil _, (fun r hr => by cases hr), ?_, List.Pairwise.nil, (fun r hr => by cases hr), List.Pairwise.nil, (fun r hr => by cases hr)⟩, rfl, rfl, hC.2.2.mono (fun b hb => .inl (by obtain rfl : b = T.t := (by simpa using hb); simp [TT.blocks])), ?_⟩, rfl⟩
  · exact hC.2.1.mono (Nat.zero_le _)
  · have : T.t ≠ M := by have := unhide HM; omega
    simp [TT.blocks, Value.ownBlock, this]
  · intro b hb
    have hM := unhide HM
    simp [TT.blocks, Value.ownBlock] at hb ⊢
    rcases hb with rfl | rfl
    · exact .inl (.inl rfl)
    · exact .inr (by omega)
end Go.Proofs.YtmemceindohklaaDoor

/-! Of -/
namespace Go.Proofs.YtmemceindohklaaDoor
open Go Go.Proofs Go.Maps Go.RowKit
set_option linter.unusedSimpArgs false
set_option linter.unusedVariables false
set_option maxHeartbeats 1000000
theorem ex_appendG {a : Act} {w : World} {o : Oper} {t e : TypeId} {size bytes k m c B off base : Nat} {z v : Value} {xs news : List Value} {s x : Operand} (ho : o.op = .call { callee := .builtin .append, args := #[s, x], argTypes := #[t, t] }) (hs : a.eval s = v) (hx : a.eval x = .slice (some ⟨B, off, none⟩) m c)
    (ht : Tryd.prog.underlying t = some (.slice e)) (hi : (Tryd.prog.info? e).map (fun i => (i.zero, i.size, i.bytes)) = some (some z, size, bytes)) (hz : z.cells.size = size) (hsz : 0 < size) (hown : w.ownsRow base e size v k xs) (hB : w.rangeAt B off news) (hl : news.length = m * size) (h1 : ∀ u ∈ news, u.oneCell' = true)
    (hn : k + m ≤ 1000000) (hby : bytes ≤ 10000) (hbase : base ≤ w.heap.size) :
    ∃ A c' w', (execOp a.eval o).run Tryd.prog w = .ok (.value (.slice A (k + m) c')) w' ∧ w'.ownsRow base e size (.slice A (k + m) c') (k + m) (xs ++ news) ∧ w.grownBy w' v.ownBlock ∧ Fresh w v (.slice A (k + m) c') := by
  obtain ⟨i0, hi, hz0, hz1, hz2⟩ := info_parts hi
  obtain ⟨v', w', hrun, h2, h3, h4⟩ := append_fresh w base t o.type e i0 _ size bytes ht hi hz0 hz1 hz2 hz hsz v k xs hown ⟨B, off, none⟩ m c news hl (fun j u hj => by
    rw [Addr.add_mid]
    exact hB j u hj) h1 (by unfold maxLen; omega) (Nat.le_trans (Nat.mul_le_mul hn hby) (by decide)) hbase
  obtain ⟨A', c', rfl⟩ := own_form h2
  refine ⟨A', c', w', ?_, h2, h3, h4⟩
  simp [execOp, ho, resolve, invoke, builtin, hs, hx, hrun, Result.andThen]
theorem gappG {md : Region.Mode} {ops : Array Oper} {Q : Exit → Act → World → Prop} {S : World → Prop} {w : World} {fuel : Nat} {listed : Array Bool} {a : Act} {o : Oper} {rs : List Nat} (i : Nat) (dst : Option Tmp) {t e : TypeId} {size bytes k m c B off base : Nat} {z v : Value} {xs news : List Value} {s x : Operand} (hi0 : ops[i]? = some o) (hd : o.dst = dst) (hw : Region.wanted o (yielded ops a.tmps) = true) (ho : o.op = .call { callee := .builtin .append, args := #[s, x], argTypes := #[t, t] }) (hs : a.eval s = v) (hx : a.eval x = .slice (some ⟨B, off, none⟩) m c)
    (ht : Tryd.prog.underlying t = some (.slice e)) (hi : (Tryd.prog.info? e).map (fun i => (i.zero, i.size, i.bytes)) = some (some z, size, bytes)) (hz : z.cells.size = size) (hsz : 0 < size) (hown : w.ownsRow base e size v k xs) (hB : w.rangeAt B off news) (hl : news.length = m * size) (h1 : ∀ u ∈ news, u.oneCell' = true)
    (hn : k + m ≤ 1000000) (hby : bytes ≤ 10000) (hbase : base ≤ w.heap.size) (hon : ∀ X, w.grownBy X v.ownBlock → S X)
    (h : ∀ A c' X, X.ownsRow base e size (.slice A (k + m) c') (k + m) (xs ++ news) → w.grownBy X v.ownBlock → Fresh w v (.slice A (k + m) c') → wpAnyH Tryd.prog md ops Q S fuel (listed.setIfInBounds i true) (a.put dst (.slice A (k + m) c')) X) (hs2 : AllReadyH Tryd.prog md ops Q S fuel listed a w rs) : AllReadyH Tryd.prog md ops Q S fuel listed a w (i :: rs) := by
  obtain ⟨A, c', w', he, h2, h3, h4⟩ := ex_appendG ho hs hx ht hi hz hsz hown hB hl h1 hn hby hbase
  exact gval i dst hi0 hd hw he (hon w' h3) (h A c' w' h2 h3 h4) hs2
theorem own_none (w : World) (base e s : Nat) (hb : base ≤ w.heap.size) : (w.alloc (Obj.cells #[] e)).ownsRow base e s (.slice (some ⟨w.heap.size, 0, none⟩) 0 0) 0 [] := by
  refine ⟨by simp, .inr ⟨w.heap.size, 0, #[], rfl, hb, by (rw [show (w.alloc (Obj.cells #[] e)).heap = w.heap.push (Obj.cells #[] e) from rfl]; simp), Nat.le_refl _, Nat.zero_le _, by simp, by simp⟩⟩
theorem ex_add1 {o : Oper} {a : Act} {w : World} {x y : Operand} {n : Nat} (ho : o.op = .binOp .add 3 x y 3) (hx : a.eval x = .int .i64 (n : Nat)) (hc : a.eval y = .int .i64 1) (hn : n < 1000000) : (execOp a.eval o).run Tryd.prog w = .ok (.value (.int .i64 ((n + 1 : Nat) : Int))) w := by
  unfold execOp
  simp only [ho, hx, hc]
  have e : IntKind.i64.wrap ((n : Int) + 1) = (n : Int) + 1 := by
    rw [IntKind.wrap_i64]
    omega
  have e2 : ((n + 1 : Nat) : Int) = (n : Int) + 1 := by omega
  rw [e2]
  simp [go_sem, eqGuard, e]
end Go.Proofs.YtmemceindohklaaDoor

/-! Og -/
namespace Go.Proofs.YtmemceindohklaaDoor
open Go Go.Proofs Go.Maps Go.RowKit
end Go.Proofs.YtmemceindohklaaDoor

/-! Oh -/
namespace Go.Proofs.YtmemceindohklaaDoor
open Go Go.Proofs Go.Maps Go.RowKit
end Go.Proofs.YtmemceindohklaaDoor

/-! Oi -/
namespace Go.Proofs.YtmemceindohklaaDoor
open Go Go.Proofs Go.Maps Go.RowKit
set_option linter.unusedSimpArgs false
set_option linter.unusedVariables false
set_option maxHeartbeats 1000000
theorem ret_ct58 {fn : Func} {R : Ending → World → Prop} {a : Act} {w : World} {b r q : Nat} {vs : List Value} {v : Value} {cs : List Value} (hr : fn.results = #[.cell r 54, .tmp q]) (hdf : a.defers = [])
    (hx : a.tmps.getD r undef = .pointer (some ⟨b, 0, none⟩)) (hq : a.tmps.getD q undef = v) (hc : Holds w b cs) (hcs : (cs.drop 0).take 20 = vs) (hvl : vs.length = 20) (h : R (.returned (.tuple #[.agg vs.toArray, v])) w) : bodyPost Tryd.prog fn R .ret a w := by
  obtain ⟨t, hu, hd⟩ := row58
  have h0 := hc.mid 0 20
  rw [hcs] at h0
  have hl := run_loadVar_mid (P := Tryd.prog) w b 0 54 _ t h0 hu hd (by rw [hvl]; exact siz58)
  refine ⟨hdf, _, ?_, h⟩
  simp only [Array.getD_eq_getD_getElem?] at hx hq
  unfold results
  simp [hr, hx, hq, hl, asAddr]
  try rfl
theorem ex_alloc58 {o : Oper} {a : Act} {w : World} (ho : o.op = .alloc 54) : (execOp a.eval o).run Tryd.prog w = .ok (.value (.pointer (some ⟨w.heap.size, 0, none⟩))) (w.alloc (Obj.cells (zeroK.cs ++ zeroD.cs).toArray 54)) := by
  have e : (zeroValue 54).run Tryd.prog w = .ok (.agg (zeroK.cs ++ zeroD.cs).toArray) w := by kernel_rfl
  unfold execOp
  simp only [ho]
  simp [go_sem, e]
theorem al58 {ops : Array Oper} {rest : List Oper} {Q : Exit → Act → World → Prop} {w w0 : World} {a : Act} {o : Oper} {E : List Nat} {L : List (Nat × List Value)} (hw : Region.wanted o (yielded ops a.tmps) = true) (ho : o.op = .alloc 54) (hL : Hq w0 w E L)
    (h : ∀ X B, B = w.heap.size → Hq w0 X E (L ++ [(B, (zeroK.cs ++ zeroD.cs))]) → Below w.heap.size w X → wpList Tryd.prog ops Q rest (a.put o.dst (.pointer (some ⟨B, 0, none⟩))) X) : wpList Tryd.prog ops Q (o :: rest) a w :=
  rdw hw (ex_alloc58 ho) (h _ _ rfl (hL.new (zeroK.cs ++ zeroD.cs) 54 (by decide)) ((Below.refl _ _).alloc (Nat.le_refl _) _))
theorem ex_build58z {o : Oper} {a : Act} {w : World} (ho : o.op = .build 54 #[]) : (execOp a.eval o).run Tryd.prog w = .ok (.value (.agg (zeroK.cs ++ zeroD.cs).toArray)) w := by
  have e : (Instr.build 54 #[]).run Tryd.prog w = .ok (.agg (zeroK.cs ++ zeroD.cs).toArray) w := by kernel_rfl
  unfold execOp
  simp only [ho, List.map_toArray, List.map_nil]
  simp [e]
theorem siz58v (vs : List Value) (h : vs.length = 20) : (Tryd.prog.info? 54).map (·.size) = some vs.length := by rw [h]; exact siz58
theorem onekd (k : KK) (d : DD) : ∀ u ∈ k.cs ++ d.cs, u.oneCell' = true := by simp [KK.cs, DD.cs, VV.cs, Value.oneCell']
set_option maxRecDepth 100000 in
theorem at_out (T : TT) (i : Int) (w : World) (hT : T.Is w) (hi : i < 0 ∨ (T.live.length : Int) ≤ i) : Calls Tryd.prog 21 #[.pointer (some ⟨T.t, 0, none⟩), .int .i64 i] w fun e w' => e = .returned (.tuple #[.agg (zeroK.cs ++ zeroD.cs).toArray, .bool false]) ∧ Below w.heap.size w w' := by
  have C30 : Hid (∀ X, T.Is X → Calls Tryd.prog 17 #[.pointer (some ⟨T.t, 0, none⟩)] X fun e w' => e = .returned (.int .i64 T.live.length) ∧ w' = X) := hide (fun X hX => len30 T X hX)
  have HT := hide hT
  clear hT
  obtain ⟨n, hn⟩ : ∃ n, n = T.live.length := ⟨_, rfl⟩
  rw [← hn] at hi C30
  clear hn
  by_cases h0 : i < 0
  · clear hi
    go_enter Tryd.func21, Tryd.ntmps21
    go_wp2_with (first | go_skip | ((with_reducible show wpList _ _ _ _ _ _); first | ((refine al58 (by rfl) rfl (Hq.nil w []) ?_); intro w1 B hB L1 hb1; have LL := hide L1; have HB1 := hide hb1; have HB := hide hB; have HBle : Hid (w.heap.size ≤ B) := hide (Nat.le_of_eq hB.symm); replace HT := hide ((unhide HT).on hb1); clear hB L1 hb1; simp only [Act.put, List.setIfInBounds_toArray, List.set_cons_succ, List.set_cons_zero]) | ((refine rd (by rfl) (ex_build58z rfl) ?_); simp only [Act.put, List.setIfInBounds_toArray, List.set_cons_succ, List.set_cons_zero]) | ((with_reducible apply st (vs := (zeroK.cs ++ zeroD.cs)) (v := .agg (zeroK.cs ++ zeroD.cs).toArray) (b := B) (p := 0) 0 54); (case hw => rfl); (case ho => rfl); (case hx => rfl); (case hy => rfl); (case hv => rfl); (case h1 => exact onekd _ _); (case hi => exact siz58v _ rfl); (case hL => exact unhide LL); (case hg => rfl); (case hp => simp [zeroK, zeroD, zeroV, KK.cs, DD.cs, VV.cs]); (case hE => exact Or.inr (unhide HBle)); intro w3 L3 hf3 hs3; replace LL := hide L3; have HF3 := hide hf3; clear L3 hf3 hs3; simp only [Act.put, List.setIfInBounds_toArray, List.set_cons_succ, List.set_cons_zero])))
    refine ret_ct58 (vs := (zeroK.cs ++ zeroD.cs)) (r := 4) (q := 5) (b := B) rfl rfl rfl rfl ((unhide LL).get 0 rfl) rfl rfl ⟨rfl, (unhide LL).fr.below⟩
  · have h1 : (n : Int) ≤ i := by omega
    have h0' : decide (i < 0) = false := decide_eq_false h0
    have h1' : decide ((n : Int) ≤ i) = true := decide_eq_true h1
    clear hi
    go_enter Tryd.func21, Tryd.ntmps21
    go_wp2_with (first | go_skip | ((with_reducible show wpList _ _ _ _ _ _); first | ((refine al58 (by rfl) rfl (Hq.nil w []) ?_); intro w1 B hB L1 hb1; have LL := hide L1; have HB1 := hide hb1; have HB := hide hB; have HBle : Hid (w.heap.size ≤ B) := hide (Nat.le_of_eq hB.symm); replace HT := hide ((unhide HT).on hb1); clear hB L1 hb1; simp only [Act.put, List.setIfInBounds_toArray, List.set_cons_succ, List.set_cons_zero]) | ((refine rd (by rfl) (ex_build58z rfl) ?_); simp only [Act.put, List.setIfInBounds_toArray, List.set_cons_succ, List.set_cons_zero]) | ((with_reducible apply st (vs := (zeroK.cs ++ zeroD.cs)) (v := .agg (zeroK.cs ++ zeroD.cs).toArray) (b := B) (p := 0) 0 54); (case hw => rfl); (case ho => rfl); (case hx => rfl); (case hy => rfl); (case hv => rfl); (case h1 => exact onekd _ _); (case hi => exact siz58v _ rfl); (case hL => exact unhide LL); (case hg => rfl); (case hp => simp [zeroK, zeroD, zeroV, KK.cs, DD.cs, VV.cs]); (case hE => exact Or.inr (unhide HBle)); intro w3 L3 hf3 hs3; replace LL := hide L3; have HF3 := hide hf3; clear L3 hf3 hs3; simp only [Act.put, List.setIfInBounds_toArray, List.set_cons_succ, List.set_cons_zero])))
    refine ((unhide C30) w1 (unhide HT)).mono ?_
    rintro _ x6 ⟨rfl, e6⟩
    rw [e6]
    clear e6 x6
    go_wp2_with (first | go_skip | ((with_reducible show wpList _ _ _ _ _ _); first | ((refine al58 (by rfl) rfl (Hq.nil w []) ?_); intro w1 B hB L1 hb1; have LL := hide L1; have HB1 := hide hb1; have HB := hide hB; have HBle : Hid (w.heap.size ≤ B) := hide (Nat.le_of_eq hB.symm); replace HT := hide ((unhide HT).on hb1); clear hB L1 hb1; simp only [Act.put, List.setIfInBounds_toArray, List.set_cons_succ, List.set_cons_zero]) | ((refine rd (by rfl) (ex_build58z rfl) ?_); simp only [Act.put, List.setIfInBounds_toArray, List.set_cons_succ, List.set_cons_zero]) | ((with_reducible apply st (vs := (zeroK.cs ++ zeroD.cs)) (v := .agg (zeroK.cs ++ zeroD.cs).toArray) (b := B) (p := 0) 0 54); (case hw => rfl); (case ho => rfl); (case hx => rfl); (case hy => rfl); (case hv => rfl); (case h1 => exact onekd _ _); (case hi => exact siz58v _ rfl); (case hL => exact unhide LL); (case hg => rfl); (case hp => simp [zeroK, zeroD, zeroV, KK.cs, DD.cs, VV.cs]); (case hE => exact Or.inr (unhide HBle)); intro w3 L3 hf3 hs3; replace LL := hide L3; have HF3 := hide hf3; clear L3 hf3 hs3; simp only [Act.put, List.setIfInBounds_toArray, List.set_cons_succ, List.set_cons_zero])))
    refine ret_ct58 (vs := (zeroK.cs ++ zeroD.cs)) (r := 4) (q := 5) (b := B) rfl rfl rfl rfl ((unhide LL).get 0 rfl) rfl rfl ⟨rfl, (unhide LL).fr.below⟩
set_option maxRecDepth 100000 in
theorem at_in (T : TT) (j : Nat) (w : World) (hT : T.Is w) (hl : T.last < 100000) (hj : j < T.live.length) : Calls Tryd.prog 21 #[.pointer (some ⟨T.t, 0, none⟩), .int .i64 j] w fun e w' => e = .returned (.tuple #[.agg (T.live[j].k.cs ++ T.live[j].d.cs).toArray, .bool true]) ∧ ∃ T', TT.To T T' w w' ∧ T'.live = T.live := by
  have C30 : Hid (∀ X, T.Is X → Calls Tryd.prog 17 #[.pointer (some ⟨T.t, 0, none⟩)] X fun e w' => e = .returned (.int .i64 T.live.length) ∧ w' = X) := hide (fun X hX => len30 T X hX)
  have C39 : Hid (∀ X, T.Is X → Calls Tryd.prog 31 #[.pointer (some ⟨T.t, 0, none⟩)] X fun e w' => e = .returned (.tuple #[]) ∧ ∃ rv, (T.packed T.m rv).Is w' ∧ Fr X w' [T.t] ∧ (∀ g, rv.ownBlock = some g → T.rv.ownBlock = some g ∨ X.heap.size ≤ g)) := hide (fun X hX => closeGaps39 T X hX hl)
  have HT := hide hT
  have HLT := hide hT.lt
  obtain ⟨n, hn⟩ : ∃ n, n = T.live.length := ⟨_, rfl⟩
  obtain ⟨r, hr⟩ : ∃ r, r = T.live[j] := ⟨_, rfl⟩
  have hrm : Hid (r ∈ T.live) := hide (hr ▸ List.getElem_mem hj)
  have HP : Hid ((ptrs (T.live.map (·.b)))[0 + j]? = some (.pointer (some ⟨r.b, 0, none⟩))) := hide (by rw [hr]; exact ptrs_get T.live j hj)
  have Hn := hide hn
  rw [← hr]
  rw [← hn] at hj C30
  have hjz : (j : Int) < n := by omega
  have hjd : ¬ (j : Int) < 0 := by omega
  have hjn : ¬ (n : Int) ≤ (j : Int) := by omega
  clear hT hn hr hl
  go_enter Tryd.func21, Tryd.ntmps21
  go_wp2_with (first | go_skip | ((with_reducible show wpList _ _ _ _ _ _); first | ((refine al58 (by rfl) rfl (Hq.nil w T.blocks) ?_); intro w1 B hB L1 hb1; have LL := hide L1; have HB1 := hide hb1; have HB := hide hB; have HBle : Hid (w.heap.size ≤ B) := hide (Nat.le_of_eq hB.symm); replace HT := hide ((unhide HT).on hb1); clear hB L1 hb1; simp only [Act.put, List.setIfInBounds_toArray, List.set_cons_succ, List.set_cons_zero])))
  refine ((unhide C30) w1 (unhide HT)).mono ?_
  rintro _ x6 ⟨rfl, e6⟩
  rw [e6]
  clear e6 x6
  go_wp2_with fail
  refine ((unhide C39) w1 (unhide HT)).mono ?_
  rintro _ w2 ⟨rfl, rv, hT2, hf2, hb2⟩
  obtain ⟨A, c, hrv⟩ := own_form hT2.own
  replace hrv : rv = .slice A n c := by
    rw [unhide Hn]
    simpa [TT.packed] using hrv
  subst hrv
  have hown : w2.ownsRow 0 72 1 (.slice A (T.live.map (·.b)).length c) (T.live.map (·.b)).length (ptrs (T.live.map (·.b))) := by
    have h1 := hT2.own
    have e := unhide Hn
    unfold OwnP TT.packed at h1
    simp only at h1
    rw [List.length_map, ← e] at h1 ⊢
    exact h1
  have htl := (unhide HLT) T.t (by simp [TT.blocks])
  obtain ⟨g, rfl, -, hgl⟩ := own_some hown (by have := unhide Hn; simp; omega)
  have HG : Hid (Holds w2 g (ptrs (T.live.map (·.b)))) := hide (own_holds hown)
  have HV : Hid (Holds w2 T.t [.map (some T.m), .slice (some ⟨g, 0, none⟩) n c, .int .u64 T.last]) := hide hT2.tab
  have HRr : Hid (Holds w2 r.b r.cs) := hide (hT2.rows r (unhide hrm))
  have hBlt : B < w1.heap.size := (unhide LL).lt (B, (zeroK.cs ++ zeroD.cs)) (by simp)
  have hBe := unhide HB
  have hne : ∀ b ∈ (T.packed T.m (.slice (some ⟨g, 0, none⟩) n c)).blocks, b ∉ [B] := by
    intro b hb hm
    obtain rfl : b = B := by simpa using hm
    simp only [TT.blocks, TT.packed, List.mem_cons, List.mem_append] at hb
    have hlt := unhide HLT
    rcases hb with h1 | h1 | h1 | h1
    · omega
    · have := hlt T.m (by simp [TT.blocks]); omega
    · rcases hb2 b (by simpa using h1) with h2 | h2
      · have := hlt b (by unfold TT.blocks; rw [h2]; simp); omega
      · omega
    · have := hlt b (by unfold TT.blocks; simp only [List.mem_cons, List.mem_append]; exact .inr (.inr (.inr (live_sub T b h1)))); omega
  have HNE := hide hne
  have HNW : Hid (∀ b ∈ (T.packed T.m (.slice (some ⟨g, 0, none⟩) n c)).blocks, b ∈ T.blocks ∨ w.heap.size ≤ b) := hide (by
    intro b hb
    simp only [TT.blocks, TT.packed, List.mem_cons, List.mem_append] at hb ⊢
    rcases hb with h1 | h1 | h1 | h1
    · exact .inl (.inl h1)
    · exact .inl (.inr (.inl h1))
    · rcases hb2 b (by simpa using h1) with h2 | h2
      · exact .inl (.inr (.inr (.inl (by rw [h2]; simp))))
      · exact .inr (by omega)
    · exact .inl (.inr (.inr (.inr (live_sub T b h1)))))
  have HT2 := hide hT2
  replace LL := hide ((unhide LL).step hf2 (fun b hb => .inl (by obtain rfl : b = T.t := (by simpa using hb); simp [TT.blocks])) (fun q hq hm => by
    obtain rfl : q = (B, (zeroK.cs ++ zeroD.cs)) := by simpa using hq
    have e : B = T.t := by simpa using hm
    omega))
  clear hne hBlt hBe hT2 hf2 hb2 hown hgl htl HT C30 C39 HLT
  go_wp2_with (first | go_skip | ((with_reducible show wpList _ _ _ _ _ _); first | ((refine rd (by rfl) (ex_load1 68 Tryd.isAgg68 rfl rfl (unhide HV) rfl) ?_); simp only [Act.put, List.setIfInBounds_toArray, List.set_cons_succ, List.set_cons_zero]) | ((refine rd (by rfl) (ex_index70 (off := 0) j rfl rfl rfl hj) ?_); simp only [Act.put, List.setIfInBounds_toArray, List.set_cons_succ, List.set_cons_zero]) | ((refine rd (by rfl) (ex_load1 72 Tryd.isAgg72 rfl rfl (unhide HG) (unhide HP)) ?_); simp only [Act.put, List.setIfInBounds_toArray, List.set_cons_succ, List.set_cons_zero]) | ((refine rd (by rfl) (ex_loadN (vs := r.k.cs ++ r.d.cs) 54 20 row58 siz58 rfl rfl (unhide HRr) rfl rfl) ?_); simp only [Act.put, List.setIfInBounds_toArray, List.set_cons_succ, List.set_cons_zero]) | ((with_reducible apply st (vs := (r.k.cs ++ r.d.cs)) (v := .agg (r.k.cs ++ r.d.cs).toArray) (b := B) (p := 0) 0 54); (case hw => rfl); (case ho => rfl); (case hx => rfl); (case hy => rfl); (case hv => rfl); (case h1 => exact onekd _ _); (case hi => exact siz58v _ rfl); (case hL => exact unhide LL); (case hg => rfl); (case hp => simp [zeroK, zeroD, zeroV, KK.cs, DD.cs, VV.cs]); (case hE => exact Or.inr (unhide HBle)); intro w3 L3 hf3 hs3; replace LL := hide L3; have HF3 := hide hf3; clear L3 hf3 hs3; simp only [Act.put, List.setIfInBounds_toArray, List.set_cons_succ, List.set_cons_zero])))
  refine ret_ct58 (vs := r.k.cs ++ r.d.cs) (r := 4) (q := 5) (b := B) rfl rfl rfl rfl ((unhide LL).get 0 rfl) rfl rfl ⟨rfl, _, ⟨(unhide HT2).fr (unhide HF3) (unhide HNE), rfl, rfl, (unhide LL).fr, unhide HNW⟩, TT.packed_live _ _ _⟩
end Go.Proofs.YtmemceindohklaaDoor
