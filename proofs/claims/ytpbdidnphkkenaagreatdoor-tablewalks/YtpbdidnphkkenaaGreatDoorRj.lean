import Derived.Test.YtpbdidnphkkenaaGreatDoorRg
import Derived.Test.YtpbdidnphkkenaaGreatDoorRi
set_option linter.all false
namespace Go.Proofs.YtpbdidnphkkenaaGreatDoor
set_option maxHeartbeats 1000000
section
open Go Go.Proofs Go.Maps Go.RowKit
theorem ex_mm0 {o : Oper} {a : Act} {w : World} (ho : o.op = .makeMap 69 none) : (execOp a.eval o).run Tryz.prog w = .ok (.value (.map (some w.heap.size))) (w.alloc (.map #[] 0)) := by
  unfold execOp
  simp only [ho, Option.map_none]
  simp [run_makeMap]
theorem ex_build73 {o : Oper} {a : Act} {w : World} {x y : Operand} {M n : Nat} (ho : o.op = .build 73 #[(0, x), (2, y)]) (hx : a.eval x = .map (some M)) (hy : a.eval y = .int .u64 (n : Nat)) : (execOp a.eval o).run Tryz.prog w = .ok (.value (.agg [.map (some M), .slice none 0 0, .int .u64 (n : Nat)].toArray)) w := by
  have e : (Instr.build 73 #[(0, .map (some M)), (2, .int .u64 (n : Nat))]).run Tryz.prog w = .ok (.agg [.map (some M), .slice none 0 0, .int .u64 (n : Nat)].toArray) w := by kernel_rfl
  unfold execOp
  simp only [ho, List.map_toArray, List.map_cons, List.map_nil, hx, hy]
  simp [e]
theorem siz73 : (Tryz.prog.info? 73).map (·.size) = some 3 := by kernel_rfl
/-- What a call made of a table. -/
structure TT.To (T T' : TT) (w w' : World) : Prop where
  is : T'.Is w'
  t : T'.t = T.t
  last : T'.last = T.last
  fr : Fr w w' T.blocks
  new : ∀ b ∈ T'.blocks, b ∈ T.blocks ∨ w.heap.size ≤ b
  nu : T.Nu T' w w'
theorem clear16 (T : TT) (w : World) (hT : T.Is w) : Calls Tryz.prog 16 #[.pointer (some ⟨T.t, 0, none⟩)] w fun e w' => e = .returned (.tuple #[]) ∧ ∃ T', TT.To T T' w w' ∧ T'.live = [] := by
  have HV : Hid (Holds w T.t [.map (some T.m), T.rv, .int .u64 T.last]) := hide hT.tab
  have HL := hide hT.lt
  have htl : T.t < w.heap.size := hT.lt T.t (by simp [TT.blocks])
  clear hT
  go_enter Tryz.func16, Tryz.ntmps16
  go_wp2_with (first | go_skip | ((with_reducible show wpList _ _ _ _ _ _); first | ((refine rd (by rfl) (ex_load1 71 Tryz.isAgg71 rfl rfl (unhide HV) rfl) ?_); simp only [Act.put, nzA, nzB, nzC]) | ((refine rd (by rfl) (ex_build73 rfl rfl rfl) ?_); simp only [Act.put, nzA, nzB, nzC]) | ((refine rdw (by rfl) (ex_mm0 rfl) ?_); obtain ⟨M, hM⟩ : ∃ M, M = w.heap.size := ⟨_, rfl⟩; obtain ⟨w2, hw2⟩ : ∃ w2, w2 = w.alloc (.map #[] 0) := ⟨_, rfl⟩; have HM := hide hM; have hb2 : Below w.heap.size w w2 := (by rw [hw2]; exact (Below.refl _ _).alloc (Nat.le_refl _) _); have HMP : Hid (MapIs w2 M 0 0 (fun _ => none)) := hide (by rw [hw2, hM]; exact MapIs.made w); rw [← hw2, ← hM]; replace HV := hide ((unhide HV).block (hb2.block T.t htl)); have HB2 := hide hb2; clear hw2 hM hb2; simp only [Act.put, nzA, nzB, nzC]) | ((with_reducible apply stx (t := 73) (b := T.t) (p := 0) (cs := [.map (some T.m), T.rv, .int .u64 T.last]) (vs := [.map (some M), .slice none 0 0, .int .u64 T.last]) (v := .agg [.map (some M), .slice none 0 0, .int .u64 T.last].toArray)); (case hw => rfl); (case ho => rfl); (case hx => rfl); (case hy => rfl); (case hv => exact rfl); (case h1 => exact (by simp [Value.oneCell'])); (case hi => exact siz73); (case hH => exact unhide HV); (case hp => exact (by simp)); (obtain ⟨w3, hw3⟩ : ∃ w3, w3 = w2.setCells T.t 0 [.map (some M), .slice none 0 0, .int .u64 T.last] := ⟨_, rfl⟩); (have HC : Hid (Holds w3 T.t [.map (some M), .slice none 0 0, .int .u64 T.last] ∧ MapIs w3 M 0 0 (fun _ => none) ∧ Fr w w3 [T.t]) := hide ⟨(by rw [hw3]; exact (unhide HV).put 0 [.map (some M), .slice none 0 0, .int .u64 T.last] (by simp)), (by rw [hw3]; exact (unhide HMP).block (heap_setCells _ _ _ _ _ (by have h1 := unhide HM; omega))), (by rw [hw3]; exact (Fr.of_below (unhide HB2) [T.t]).trans (Fr.setCells _ _ _ _) (fun b hb => .inl hb))⟩); rw [← hw3]; clear hw3; simp only [Act.put, nzA, nzB, nzC])))
  go_end0
  have hC := unhide HC
  refine ⟨rfl, ⟨T.t, M, .slice none 0 0, [], T.last⟩, ⟨⟨hC.1, ?_, OwnP.nil _, (fun r hr => by cases hr), ?_, List.Pairwise.nil, (fun r hr => by cases hr), List.Pairwise.nil, (fun r hr => by cases hr)⟩, rfl, rfl, hC.2.2.mono (fun b hb => .inl (by obtain rfl : b = T.t := (by simpa using hb); simp [TT.blocks])), ?_, ?_⟩, rfl⟩
  · exact hC.2.1.mono (Nat.zero_le _)
  · have : T.t ≠ M := by have := unhide HM; omega
    simp [TT.blocks, Value.ownBlock, this]
  · intro b hb
    have hM := unhide HM
    simp [TT.blocks, Value.ownBlock] at hb ⊢
    rcases hb with rfl | rfl
    · exact .inl (.inl rfl)
    · exact .inr (by omega)
  · refine TT.Nu.of_fr hC.2.2 (fun b hb => .inl (by simpa using hb)) (fun b hb => ?_)
    have hM := unhide HM
    simp [TT.hot, Value.ownBlock] at hb ⊢
    rcases hb with rfl | rfl
    · exact .inl (.inl rfl)
    · exact .inr (by omega)
/-- What a call made of the document's table. -/
structure RT.To (R R' : RT) (w w' : World) : Prop where
  is : R'.Is w'
  t : R'.t = R.t
  nx : R'.nx = R.nx
  fr : Fr w w' R.blocks
  new : ∀ b ∈ R'.blocks, b ∈ R.blocks ∨ w.heap.size ≤ b
theorem refClear17 (R : RT) (w : World) (hR : R.Is w) : Calls Tryz.prog 17 #[.pointer (some ⟨R.t, 0, none⟩)] w fun e w' => e = .returned (.tuple #[]) ∧ ∃ R', RT.To R R' w w' ∧ R'.es = [] := by
  have HV : Hid (Holds w R.t [R.lv, .int .i64 R.nx]) := hide hR.tab
  clear hR
  go_enter Tryz.func17, Tryz.ntmps17
  go_wp2_with (first | go_skip | ((with_reducible show wpList _ _ _ _ _ _); first | ((with_reducible apply stx (t := 46) (b := R.t) (p := 0) (cs := [R.lv, .int .i64 R.nx]) (vs := [.slice none 0 0]) (v := .slice none 0 0)); (case hw => rfl); (case ho => rfl); (case hx => rfl); (case hy => rfl); (case hv => exact rfl); (case h1 => exact (by simp [Value.oneCell'])); (case hi => exact siz46); (case hH => exact unhide HV); (case hp => exact (by simp)); simp only [Act.put, nzA, nzB, nzC])))
  go_end0
  have h1 := (unhide HV).put 0 [.slice none 0 0] (by simp)
  refine ⟨rfl, ⟨R.t, .slice none 0 0, [], R.nx⟩, ⟨⟨h1, ⟨rfl, .inl ⟨rfl, rfl⟩⟩, by simp [RT.blocks, Value.ownBlock]⟩, rfl, rfl, (Fr.setCells _ _ _ _).mono (fun b hb => .inl (by obtain rfl : b = R.t := (by simpa using hb); simp [RT.blocks])), ?_⟩, rfl⟩
  intro b hb
  simp [RT.blocks, Value.ownBlock] at hb ⊢
  exact .inl (.inl hb)
theorem ex_appendG {a : Act} {w : World} {o : Oper} {t e : TypeId} {size bytes k m c B off base : Nat} {z v : Value} {xs news : List Value} {s x : Operand} (ho : o.op = .call { callee := .builtin .append, args := #[s, x], argTypes := #[t, t] }) (hs : a.eval s = v) (hx : a.eval x = .slice (some ⟨B, off, none⟩) m c)
    (ht : Tryz.prog.underlying t = some (.slice e)) (hi : (Tryz.prog.info? e).map (fun i => (i.zero, i.size, i.bytes)) = some (some z, size, bytes)) (hz : z.cells.size = size) (hsz : 0 < size) (hown : w.ownsRow base e size v k xs) (hB : w.rangeAt B off news) (hl : news.length = m * size) (h1 : ∀ u ∈ news, u.oneCell' = true)
    (hn : k + m ≤ 4000000) (hby : bytes ≤ 10000) (hbase : base ≤ w.heap.size) :
    ∃ A c' w', (execOp a.eval o).run Tryz.prog w = .ok (.value (.slice A (k + m) c')) w' ∧ w'.ownsRow base e size (.slice A (k + m) c') (k + m) (xs ++ news) ∧ w.grownBy w' v.ownBlock ∧ Fresh w v (.slice A (k + m) c') := by
  obtain ⟨i0, hi, hz0, hz1, hz2⟩ := info_parts hi
  obtain ⟨v', w', hrun, h2, h3, h4⟩ := append_fresh w base t o.type e i0 _ size bytes ht hi hz0 hz1 hz2 hz hsz v k xs hown ⟨B, off, none⟩ m c news hl (fun j u hj => by
    rw [Addr.add_mid]
    exact hB j u hj) h1 (by unfold maxLen; omega) (Nat.le_trans (Nat.mul_le_mul hn hby) (by decide)) hbase
  obtain ⟨A', c', rfl⟩ := own_form h2
  refine ⟨A', c', w', ?_, h2, h3, h4⟩
  simp [execOp, ho, resolve, invoke, builtin, hs, hx, hrun, Result.andThen]
theorem gappG {md : Region.Mode} {ops : Array Oper} {Q : Exit → Act → World → Prop} {S : World → Prop} {w : World} {fuel : Nat} {listed : Array Bool} {a : Act} {o : Oper} {rs : List Nat} (i : Nat) (dst : Option Tmp) {t e : TypeId} {size bytes k m c B off base : Nat} {z v : Value} {xs news : List Value} {s x : Operand} (hi0 : ops[i]? = some o) (hd : o.dst = dst) (hw : Region.wanted o (yielded ops a.tmps) = true) (ho : o.op = .call { callee := .builtin .append, args := #[s, x], argTypes := #[t, t] }) (hs : a.eval s = v) (hx : a.eval x = .slice (some ⟨B, off, none⟩) m c)
    (ht : Tryz.prog.underlying t = some (.slice e)) (hi : (Tryz.prog.info? e).map (fun i => (i.zero, i.size, i.bytes)) = some (some z, size, bytes)) (hz : z.cells.size = size) (hsz : 0 < size) (hown : w.ownsRow base e size v k xs) (hB : w.rangeAt B off news) (hl : news.length = m * size) (h1 : ∀ u ∈ news, u.oneCell' = true)
    (hn : k + m ≤ 4000000) (hby : bytes ≤ 10000) (hbase : base ≤ w.heap.size) (hon : ∀ X, w.grownBy X v.ownBlock → S X)
    (h : ∀ A c' X, X.ownsRow base e size (.slice A (k + m) c') (k + m) (xs ++ news) → w.grownBy X v.ownBlock → Fresh w v (.slice A (k + m) c') → wpAnyH Tryz.prog md ops Q S fuel (listed.setIfInBounds i true) (a.put dst (.slice A (k + m) c')) X) (hs2 : AllReadyH Tryz.prog md ops Q S fuel listed a w rs) : AllReadyH Tryz.prog md ops Q S fuel listed a w (i :: rs) := by
  obtain ⟨A, c', w', he, h2, h3, h4⟩ := ex_appendG ho hs hx ht hi hz hsz hown hB hl h1 hn hby hbase
  exact gval i dst hi0 hd hw he (hon w' h3) (h A c' w' h2 h3 h4) hs2
theorem ex_none46 {o : Oper} {a : Act} {w : World} (ho : o.op = .buildSlice 46 0 #[]) : (execOp a.eval o).run Tryz.prog w = .ok (.value (.slice (some ⟨w.heap.size, 0, none⟩) 0 0)) (w.alloc (Obj.cells #[] 82)) := by
  have e : (Instr.buildSlice 46 0 #[]).run Tryz.prog w = .ok (.slice (some ⟨w.heap.size, 0, none⟩) 0 0) (w.alloc (Obj.cells #[] 82)) := by kernel_rfl
  unfold execOp
  simp only [ho, List.map_toArray, List.map_nil]
  simp [e]
theorem own_none (w : World) (base e s : Nat) (hb : base ≤ w.heap.size) : (w.alloc (Obj.cells #[] e)).ownsRow base e s (.slice (some ⟨w.heap.size, 0, none⟩) 0 0) 0 [] := by
  refine ⟨by simp, .inr ⟨w.heap.size, 0, #[], rfl, hb, by (rw [show (w.alloc (Obj.cells #[] e)).heap = w.heap.push (Obj.cells #[] e) from rfl]; simp), Nat.le_refl _, Nat.zero_le _, by simp, by simp⟩⟩
theorem slice46_h (g n cap p : Nat) (hp : p ≤ cap) (hn : 0 < cap) (w : World) : (Instr.sliceAt 46 (.slice (some ⟨g, 0, none⟩) n cap) none (some (.int .i64 (p : Nat))) none).run Tryz.prog w = .ok (.slice (some ⟨g, 0, none⟩) p cap) w := by
  rw [run_sliceAt_slice (h := by kernel_rfl), run_slice_h (ht := by kernel_rfl) (h0 := by omega) (h2 := by omega)]
  have e : (sizeOf (Tryz.prog.elem 46)).run Tryz.prog w = .ok 21 w := by kernel_rfl
  rw [e]
  simp [sliced, Addr.add, Result.andThen]
theorem slice46_l (g n cap p : Nat) (hp : p ≤ n) (hn : n ≤ cap) (w : World) : ∃ off, (n - p ≠ 0 → off = p * 21) ∧ ∀ w, (Instr.sliceAt 46 (.slice (some ⟨g, 0, none⟩) n cap) (some (.int .i64 (p : Nat))) none none).run Tryz.prog w = .ok (.slice (some ⟨g, off, none⟩) (n - p) (cap - p)) w := by
  refine ⟨if cap = p then 0 else p * 21, fun h => by rw [if_neg (by omega)], fun w => ?_⟩
  rw [run_sliceAt_slice (h := by kernel_rfl), run_slice_l (ht := by kernel_rfl) (h0 := by omega) (h1 := by omega)]
  have e : (sizeOf (Tryz.prog.elem 46)).run Tryz.prog w = .ok 21 w := by kernel_rfl
  rw [e]
  by_cases h0 : p = 0
  · subst h0
    simp [sliced, Addr.add, Result.andThen]
  · by_cases h1 : cap = p
    · simp [sliced, Addr.add, Result.andThen, h0, h1]
    · simp [sliced, Addr.add, Result.andThen, h0, h1]
      omega
theorem ex_slice46h {o : Oper} {a : Act} {w : World} {x ix : Operand} {v u : Value} {p : Nat} (ho : o.op = .slice 46 x none (some ix) none) (hx : a.eval x = v) (hix : a.eval ix = .int .i64 (p : Nat)) (h : (Instr.sliceAt 46 v none (some (.int .i64 (p : Nat))) none).run Tryz.prog w = .ok u w) : (execOp a.eval o).run Tryz.prog w = .ok (.value u) w := by
  unfold execOp
  simp only [ho, hx]
  simp [hix, h]
theorem ex_slice46l {o : Oper} {a : Act} {w : World} {x ix : Operand} {v u : Value} {p : Nat} (ho : o.op = .slice 46 x (some ix) none none) (hx : a.eval x = v) (hix : a.eval ix = .int .i64 (p : Nat)) (h : (Instr.sliceAt 46 v (some (.int .i64 (p : Nat))) none none).run Tryz.prog w = .ok u w) : (execOp a.eval o).run Tryz.prog w = .ok (.value u) w := by
  unfold execOp
  simp only [ho, hx]
  simp [hix, h]
theorem ex_add1 {o : Oper} {a : Act} {w : World} {x y : Operand} {n : Nat} (ho : o.op = .binOp .add 3 x y 3) (hx : a.eval x = .int .i64 (n : Nat)) (hc : a.eval y = .int .i64 1) (hn : n < 4000000) : (execOp a.eval o).run Tryz.prog w = .ok (.value (.int .i64 ((n + 1 : Nat) : Int))) w := by
  unfold execOp
  simp only [ho, hx, hc]
  have e : IntKind.i64.wrap ((n : Int) + 1) = (n : Int) + 1 := by
    rw [IntKind.wrap_i64]
    omega
  have e2 : ((n + 1 : Nat) : Int) = (n : Int) + 1 := by omega
  rw [e2]
  simp [go_sem, eqGuard, e]
theorem oneE (l : List EE) : ∀ u ∈ flatE l, u.oneCell' = true := by
  intro u hu
  obtain ⟨x, _, hx⟩ := List.mem_flatMap.1 hu
  revert hx
  simp [EE.cs, KK.cs, DD.cs, VV.cs]
  rintro (rfl | rfl | rfl | rfl | rfl | rfl | rfl | rfl | rfl | rfl | rfl | rfl | rfl | rfl | rfl | rfl | rfl | rfl | rfl | rfl | rfl) <;> rfl
