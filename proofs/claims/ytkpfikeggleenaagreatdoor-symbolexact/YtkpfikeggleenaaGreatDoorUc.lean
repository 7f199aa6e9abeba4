import Derived.Test.YtkpfikeggleenaaGreatDoorUa
import Derived.Test.YtkpfikeggleenaaGreatDoorUb
import Derived.Test.YtkpfikeggleenaaGreatDoorYk

/-! Xg -/
namespace Go.Proofs.YtkpfikeggleenaaGreatDoor
open Go Go.Proofs Go.Maps Go.RowKit
set_option linter.unusedSimpArgs false
set_option linter.unusedVariables false
set_option maxHeartbeats 1000000
theorem un_lt {a b : ByteArray} (ha : vS a = true) (hb : vS b = true) (hne : a ≠ b) (h : ¬ 0 < M.cmpL (unS a) (unS b)) : ltS a b := by
  unfold ltS
  have : M.cmpL (unS a) (unS b) ≠ 0 := fun e => hne (un_inj ha hb ((M.cmpL_zero _ _).1 e))
  omega
theorem gt_lt {a b : ByteArray} (h : 0 < M.cmpL (unS a) (unS b)) : ltS b a := by
  unfold ltS
  have := M.cmpL_neg (unS a) (unS b)
  omega
theorem ins_sorted {ts : List ByteArray} {s : ByteArray} {k : Nat} (h : ts.Pairwise ltS) (hk : k ≤ ts.length) (h1 : ∀ j x, ts[j]? = some x → k ≤ j → ltS s x) (h2 : ∀ x, 0 < k → ts[k - 1]? = some x → ltS x s) : (ts.take k ++ ([s] ++ ts.drop k)).Pairwise ltS := by
  have hsp : (ts.take k ++ ts.drop k).Pairwise ltS := by rw [List.take_append_drop]; exact h
  rw [List.pairwise_append] at hsp
  have hts : ∀ x ∈ ts.take k, ltS x s := by
    intro x hx
    obtain ⟨i, hi⟩ := List.getElem?_of_mem hx
    rw [List.getElem?_take] at hi
    split at hi
    · rename_i hik
      have hkl : k - 1 < ts.length := by omega
      have hl := h2 ts[k - 1] (by omega) (List.getElem?_eq_getElem hkl)
      by_cases e : i = k - 1
      · subst e
        rw [List.getElem?_eq_getElem hkl] at hi
        rw [← Option.some.inj hi]
        exact hl
      · have hil : i < ts.length := by omega
        rw [List.getElem?_eq_getElem hil] at hi
        rw [← Option.some.inj hi]
        exact ltS_trans ((List.pairwise_iff_getElem.1 h) i (k - 1) hil hkl (by omega)) hl
    · cases hi
  have htd : ∀ x ∈ ts.drop k, ltS s x := by
    intro x hx
    obtain ⟨i, hi⟩ := List.getElem?_of_mem hx
    rw [List.getElem?_drop] at hi
    exact h1 (k + i) x hi (by omega)
  rw [List.pairwise_append, List.pairwise_append]
  refine ⟨hsp.1, ⟨List.pairwise_singleton _ _, hsp.2.1, fun x hx y hy => ?_⟩, fun x hx y hy => ?_⟩
  · obtain rfl : x = s := by simpa using hx
    exact htd y hy
  · rcases List.mem_append.1 hy with hy | hy
    · obtain rfl : y = s := by simpa using hy
      exact hts x hx
    · exact hsp.2.2 x hx y hy
theorem idx53 (w : World) : (sizeOf (Tryz.prog.elem 53)).run Tryz.prog w = .ok 1 w := by kernel_rfl
theorem und53 : Tryz.prog.underlying 53 = some (.slice (Tryz.prog.elem 53)) := by kernel_rfl
theorem sl_h (g n cap p : Nat) (hp : p ≤ cap) (w : World) : (Instr.sliceAt 53 (.slice (some ⟨g, 0, none⟩) n cap) none (some (.int .i64 (p : Nat))) none).run Tryz.prog w = .ok (.slice (some ⟨g, 0, none⟩) p cap) w := by
  rw [run_sliceAt_slice (h := by kernel_rfl), run_slice_h (ht := by kernel_rfl) (h0 := by omega) (h2 := by omega), idx53]
  simp [sliced, Addr.add, Result.andThen]
theorem sl_l (g n cap p : Nat) (hp : p ≤ n) (hn : n ≤ cap) : ∃ off, (n - p ≠ 0 → off = p) ∧ ∀ w, (Instr.sliceAt 53 (.slice (some ⟨g, 0, none⟩) n cap) (some (.int .i64 (p : Nat))) none none).run Tryz.prog w = .ok (.slice (some ⟨g, off, none⟩) (n - p) (cap - p)) w := by
  refine ⟨if cap = p then 0 else p, fun h => by rw [if_neg (by omega)], fun w => ?_⟩
  rw [run_sliceAt_slice (h := by kernel_rfl), run_slice_l (ht := by kernel_rfl) (h0 := by omega) (h1 := by omega), idx53]
  by_cases h0 : p = 0
  · subst h0
    simp [sliced, Addr.add, Result.andThen]
  · by_cases h1 : cap = p
    · simp [sliced, Addr.add, Result.andThen, h0, h1]
    · simp [sliced, Addr.add, Result.andThen, h0, h1]
theorem sl_n1 (w : World) : (Instr.sliceAt 53 (.slice none 0 0) (some (.int .i64 0)) none none).run Tryz.prog w = .ok (.slice none 0 0) w := by kernel_rfl
theorem sl_n2 (w : World) : (Instr.sliceAt 53 (.slice none 0 0) none (some (.int .i64 0)) none).run Tryz.prog w = .ok (.slice none 0 0) w := by kernel_rfl
theorem ex_slh {o : Oper} {a : Act} {w : World} {x ix : Operand} {v u : Value} {p : Int} (ho : o.op = .slice 53 x none (some ix) none) (hx : a.eval x = v) (hix : a.eval ix = .int .i64 p) (h : (Instr.sliceAt 53 v none (some (.int .i64 p)) none).run Tryz.prog w = .ok u w) : (execOp a.eval o).run Tryz.prog w = .ok (.value u) w := by
  unfold execOp
  simp only [ho, hx]
  simp [hix, h]
theorem ex_sll {o : Oper} {a : Act} {w : World} {x ix : Operand} {v u : Value} {p : Int} (ho : o.op = .slice 53 x (some ix) none none) (hx : a.eval x = v) (hix : a.eval ix = .int .i64 p) (h : (Instr.sliceAt 53 v (some (.int .i64 p)) none none).run Tryz.prog w = .ok u w) : (execOp a.eval o).run Tryz.prog w = .ok (.value u) w := by
  unfold execOp
  simp only [ho, hx]
  simp [hix, h]
theorem own_holds {w : World} {base g n c : Nat} {xs : List Value} (h : w.ownsRow base 9 1 (.slice (some ⟨g, 0, none⟩) n c) n xs) : Holds w g xs := by
  rcases h.2 with ⟨h1, -⟩ | ⟨g', c', cur, h1, h2, h3, h4, h5, h6, h7⟩
  · cases h1
  · cases h1
    refine ⟨fun j => by simp [World.frozen?, h3], fun j v hv => ?_⟩
    have hj : cur.toList[j]? = some v := by
      rw [← h7, List.getElem?_take] at hv
      split at hv
      · exact hv
      · cases hv
    have e2 : cur[j]? = some v := by simpa using hj
    simp [World.cell?, h3, e2]
theorem own_cut {w : World} {base g n c k : Nat} {xs : List Value} (h : w.ownsRow base 9 1 (.slice (some ⟨g, 0, none⟩) n c) n xs) (hk : k ≤ n) : w.ownsRow base 9 1 (.slice (some ⟨g, 0, none⟩) k c) k (xs.take k) := by
  have hl := h.1
  rcases h.2 with ⟨h1, -⟩ | ⟨g', c', cur, h1, h2, h3, h4, h5, h6, h7⟩
  · cases h1
  · cases h1
    refine ⟨by rw [List.length_take]; omega, .inr ⟨g, c, cur, rfl, h2, h3, by omega, h5, h6, ?_⟩⟩
    rw [← h7, List.take_take]
    congr 1
    omega
theorem ex_none53 {o : Oper} {a : Act} {w : World} (ho : o.op = .buildSlice 53 0 #[]) : (execOp a.eval o).run Tryz.prog w = .ok (.value (.slice (some ⟨w.heap.size, 0, none⟩) 0 0)) (w.alloc (Obj.cells #[] 9)) := by
  have e : (Instr.buildSlice 53 0 #[]).run Tryz.prog w = .ok (.slice (some ⟨w.heap.size, 0, none⟩) 0 0) (w.alloc (Obj.cells #[] 9)) := by kernel_rfl
  unfold execOp
  simp only [ho, List.map_toArray, List.map_nil]
  simp [e]
theorem none53 {ops : Array Oper} {rest : List Oper} {Q : Exit → Act → World → Prop} {w : World} {a : Act} {o : Oper} (base : Nat) (hb : base ≤ w.heap.size) (hw : Region.wanted o (yielded ops a.tmps) = true) (ho : o.op = .buildSlice 53 0 #[])
    (h : ∀ X B, B = w.heap.size → X.ownsRow base 9 1 (.slice (some ⟨B, 0, none⟩) 0 0) 0 [] → Below w.heap.size w X → wpList Tryz.prog ops Q rest (a.put o.dst (.slice (some ⟨B, 0, none⟩) 0 0)) X) : wpList Tryz.prog ops Q (o :: rest) a w := by
  refine BigFrame.wpList_want hw fun K hK => ?_
  have hP := hK _ _ (h (w.alloc (Obj.cells #[] 9)) w.heap.size rfl ⟨rfl, .inr ⟨w.heap.size, 0, #[], rfl, hb, (MapKept.heap_alloc w _).1, Nat.le_refl _, Nat.zero_le _, rfl, rfl⟩⟩ ((Below.refl _ _).alloc (Nat.le_refl _) _))
  unfold Oper.wp
  rw [ex_none53 ho]
  exact hP
/-- append of a part of a row. -/
theorem app_off {ops : Array Oper} {rest : List Oper} {Q : Exit → Act → World → Prop} {a : Act} {w : World} {o : Oper} {k m c B off base : Nat} {v : Value} {xs news : List Value} {s x : Operand} (hw : Region.wanted o (yielded ops a.tmps) = true) (ho : o.op = .call { callee := .builtin .append, args := #[s, x], argTypes := #[53, 53] }) (hs : a.eval s = v) (hx : a.eval x = .slice (some ⟨B, off, none⟩) m c)
    (hown : w.ownsRow base 9 1 v k xs) (hB : w.rangeAt B off news) (hl : news.length = m) (h1 : ∀ u ∈ news, u.oneCell' = true) (hn : k + m ≤ 1000000) (hbase : base ≤ w.heap.size)
    (h : ∀ A c' X, X.ownsRow base 9 1 (.slice A (k + m) c') (k + m) (xs ++ news) → w.grownBy X v.ownBlock → Fresh w v (.slice A (k + m) c') → wpList Tryz.prog ops Q rest (a.put o.dst (.slice A (k + m) c')) X) : wpList Tryz.prog ops Q (o :: rest) a w := by
  obtain ⟨A, c', X, he, h2, h3, h4⟩ := ex_appendG (size := 1) (bytes := 16) ho hs hx Tryz.underlying53 info9 rfl (by decide) hown hB (by omega) h1 hn (by decide) hbase
  refine BigFrame.wpList_want hw fun K hK => ?_
  have hP := hK _ _ (h A c' X h2 h3 h4)
  unfold Oper.wp
  rw [he]
  exact hP
theorem str_one (ts : List ByteArray) : ∀ u ∈ ts.map Value.string, u.oneCell' = true := by
  intro u hu
  obtain ⟨s, -, rfl⟩ := List.mem_map.1 hu
  rfl
set_option maxRecDepth 100000 in
theorem above43 (a b : ByteArray) (ha : vS a = true) (hb : vS b = true) (hsa : a.size ≤ 1048576) (hsb : b.size ≤ 1048576) (w : World) : Calls Tryz.prog 43 #[.string a, .string b] w fun e w' => e = .returned (.bool (decide (0 < M.cmpL (unS a) (unS b)))) ∧ Below w.heap.size w w' := by
  have hc := refCompare_any a b (by omega) (by omega) w
  rw [cmI_good ha hb] at hc
  have HC := hide hc
  clear hc ha hb hsa hsb
  generalize M.cmpL (unS a) (unS b) = c at *
  generalize cmE a b = e0 at *
  go_enter Tryz.func43, Tryz.ntmps43
  go_wp2_with fail
  refine (unhide HC).mono ?_
  rintro e X ⟨rfl, hb⟩
  have HB := hide hb
  clear hb
  go_wp2
  go_ret
  exact ⟨rfl, unhide HB⟩
end Go.Proofs.YtkpfikeggleenaaGreatDoor

/-! Xh -/
namespace Go.Proofs.YtkpfikeggleenaaGreatDoor
open Go Go.Proofs Go.Maps Go.RowKit
set_option linter.unusedSimpArgs false
set_option linter.unusedVariables false
set_option maxHeartbeats 1000000
/-- The document's Known, in the midst. -/
structure KN (w wr : World) (l : List SY) (i : Nat) (v : Value) (ts : List ByteArray) : Prop where
  own : wr.ownsRow w.heap.size 9 1 v ts.length (ts.map Value.string)
  nil : ts = [] → v = .slice none 0 0
  srt : ts.Pairwise ltS
  mem : ∀ x, x ∈ ts ↔ ∃ j y, j < i ∧ l[j]? = some y ∧ y.k = true ∧ y.v.s = x
  len : ts.length ≤ i
  fr : Fr w wr []
theorem KN.skip {w wr : World} {l : List SY} {i : Nat} {v : Value} {ts : List ByteArray} {y : SY} (h : KN w wr l i v ts) (hy : l[i]? = some y) (hk : y.k = false) : KN w wr l (i + 1) v ts := by
  refine ⟨h.own, h.nil, h.srt, fun x => ?_, by have := h.len; omega, h.fr⟩
  rw [h.mem x]
  constructor
  · rintro ⟨j, z, h1, h2, h3, h4⟩
    exact ⟨j, z, by omega, h2, h3, h4⟩
  · rintro ⟨j, z, h1, h2, h3, h4⟩
    by_cases e : j = i
    · subst e
      rw [hy] at h2
      obtain rfl := Option.some.inj h2
      rw [hk] at h3
      cases h3
    · exact ⟨j, z, by omega, h2, h3, h4⟩
theorem KN.put {w wr X : World} {l : List SY} {i k : Nat} {v v' : Value} {ts : List ByteArray} {y : SY} (h : KN w wr l i v ts) (hy : l[i]? = some y) (hk : y.k = true) (hkl : k ≤ ts.length) (h1 : ∀ j x, ts[j]? = some x → k ≤ j → ltS y.v.s x) (h2 : ∀ x, 0 < k → ts[k - 1]? = some x → ltS x y.v.s)
    (ho : X.ownsRow w.heap.size 9 1 v' (ts.length + 1) (((ts.take k).map Value.string ++ [.string y.v.s]) ++ (ts.drop k).map Value.string)) (hf : Fr w X []) : KN w X l (i + 1) v' (ts.take k ++ ([y.v.s] ++ ts.drop k)) := by
  have hlen : (ts.take k ++ ([y.v.s] ++ ts.drop k)).length = ts.length + 1 := by simp; omega
  refine ⟨?_, fun e => ?_, ins_sorted h.srt hkl h1 h2, fun x => ?_, by have := h.len; omega, hf⟩
  · rw [hlen]
    simpa using ho
  · have := congrArg List.length e
    rw [hlen] at this
    simp at this
  · have hmm : x ∈ ts.take k ++ ([y.v.s] ++ ts.drop k) ↔ x = y.v.s ∨ x ∈ ts := by
      conv => rhs; rw [← List.take_append_drop k ts]
      simp only [List.mem_append, List.mem_singleton]
      constructor
      · rintro (h | h | h)
        · exact .inr (.inl h)
        · exact .inl h
        · exact .inr (.inr h)
      · rintro (h | h | h)
        · exact .inr (.inl h)
        · exact .inl h
        · exact .inr (.inr h)
    rw [hmm, h.mem x]
    constructor
    · rintro (rfl | ⟨j, z, a1, a2, a3, a4⟩)
      · exact ⟨i, y, by omega, hy, hk, rfl⟩
      · exact ⟨j, z, by omega, a2, a3, a4⟩
    · rintro ⟨j, z, a1, a2, a3, a4⟩
      by_cases e : j = i
      · subst e
        rw [hy] at a2
        obtain rfl := Option.some.inj a2
        exact .inl a4.symm
      · exact .inr ⟨j, z, by omega, a2, a3, a4⟩
theorem app_none {ops : Array Oper} {rest : List Oper} {Q : Exit → Act → World → Prop} {a : Act} {w : World} {o : Oper} {k base : Nat} {v : Value} {xs : List Value} {s x : Operand} (hw : Region.wanted o (yielded ops a.tmps) = true) (ho : o.op = .call { callee := .builtin .append, args := #[s, x], argTypes := #[53, 53] }) (hs : a.eval s = v) (hx : a.eval x = .slice none 0 0)
    (hown : w.ownsRow base 9 1 v k xs) (h : wpList Tryz.prog ops Q rest (a.put o.dst v) w) : wpList Tryz.prog ops Q (o :: rest) a w := by
  obtain ⟨i0, hi, hz0, hz1, hz2⟩ := info_parts info9
  have hrun := run_append_owned_none (P := Tryz.prog) (w := w) base 53 o.type 9 i0 1 Tryz.underlying53 hi v k xs hown
  refine BigFrame.wpList_want hw fun K hK => ?_
  have hP := hK _ _ h
  unfold Oper.wp
  simp [execOp, ho, resolve, invoke, builtin, hs, hx, hrun, Result.andThen]
  exact hP
theorem drop_range {w : World} {g off k : Nat} {ts : List ByteArray} (h : Holds w g (ts.map Value.string)) (ho : ts.length - k ≠ 0 → off = k) : w.rangeAt g off ((ts.drop k).map Value.string) := by
  by_cases h0 : ts.length - k = 0
  · have : ts.drop k = [] := List.drop_eq_nil_iff.2 (by omega)
    rw [this]
    intro j v hv
    simp at hv
  · rw [ho h0]
    intro j v hv
    refine h.cell (k + j) ?_
    rw [List.map_drop, List.getElem?_drop] at hv
    exact hv
theorem some_form {w : World} {base n c : Nat} {A : Option Addr} {xs : List Value} (h : w.ownsRow base 9 1 (.slice A n c) n xs) (hs : (Value.slice A n c).ownBlock.isSome = true) : ∃ g, A = some ⟨g, 0, none⟩ ∧ (Value.slice A n c).ownBlock = some g ∧ n ≤ c := by
  rcases h.2 with ⟨h1, -⟩ | ⟨g, c', cur, h1, h2, h3, h4, -⟩
  · rw [h1] at hs
    cases hs
  · cases h1
    exact ⟨g, rfl, rfl, h4⟩
theorem app_off0 {ops : Array Oper} {rest : List Oper} {Q : Exit → Act → World → Prop} {a : Act} {w : World} {o : Oper} {m c B off base : Nat} {v : Value} {news : List Value} {s x : Operand} (hw : Region.wanted o (yielded ops a.tmps) = true) (ho : o.op = .call { callee := .builtin .append, args := #[s, x], argTypes := #[53, 53] }) (hs : a.eval s = v) (hx : a.eval x = .slice (some ⟨B, off, none⟩) m c)
    (hown : w.ownsRow base 9 1 v 0 []) (hB : w.rangeAt B off news) (hl : news.length = m) (h1 : ∀ u ∈ news, u.oneCell' = true) (hn : m ≤ 1000000) (hbase : base ≤ w.heap.size)
    (h : ∀ A c' X, X.ownsRow base 9 1 (.slice A m c') m news → w.grownBy X v.ownBlock → Fresh w v (.slice A m c') → wpList Tryz.prog ops Q rest (a.put o.dst (.slice A m c')) X) : wpList Tryz.prog ops Q (o :: rest) a w := by
  refine app_off (k := 0) (xs := []) hw ho hs hx hown hB hl h1 (by omega) hbase ?_
  rw [Nat.zero_add]
  exact h
/-- The rest that was copied: where it lies, and that the old row lies as it did. -/
theorem rest_facts {w wr X1 X2 : World} {B1 g n c m c2 : Nat} {A2 : Option Addr} {xs ys : List Value} (hE : B1 = wr.heap.size) (hb : Below wr.heap.size wr X1) (hO : wr.ownsRow w.heap.size 9 1 (.slice (some ⟨g, 0, none⟩) n c) n xs) (hO2 : X2.ownsRow w.heap.size 9 1 (.slice A2 m c2) m ys) (hg : X1.grownBy X2 (Value.slice (some ⟨B1, 0, none⟩) 0 0).ownBlock) (hf : Fresh X1 (.slice (some ⟨B1, 0, none⟩) 0 0) (.slice A2 m c2)) :
    X2.ownsRow w.heap.size 9 1 (.slice (some ⟨g, 0, none⟩) n c) n xs ∧ ∃ B2, A2 = some ⟨B2, 0, none⟩ ∧ Holds X2 B2 ys ∧ B2 ≠ g ∧ B2 < X2.heap.size := by
  have hgl := (World.ownsRow.lt hO g rfl).2
  have h1 : X1.ownsRow w.heap.size 9 1 (.slice (some ⟨g, 0, none⟩) n c) n xs := own_blk hO (fun q hq => hb.block q ((World.ownsRow.lt hO q hq).2))
  have hne : g ≠ B1 := by omega
  have hs1 := hb.size
  refine ⟨own_blk h1 (fun q hq => ?_), ?_⟩
  · obtain rfl : g = q := Option.some.inj hq
    exact hg.block g (World.ownsRow.lt h1 g rfl).2 (fun e => hne (Option.some.inj e))
  · have his : (Value.slice A2 m c2).ownBlock.isSome = true := by
      rcases hf with e | e <;> rw [e] <;> rfl
    obtain ⟨B2, rfl, hB2, -⟩ := some_form hO2 his
    refine ⟨B2, rfl, own_holds hO2, ?_, (World.ownsRow.lt hO2 B2 rfl).2⟩
    rcases hf with e | e
    · have : B2 = B1 := Option.some.inj e
      omega
    · have : B2 = X1.heap.size := Option.some.inj e
      omega
theorem rest_range {X2 X3 X4 : World} {B2 g k c : Nat} {A2 : Option Addr} {ys : List Value} (h : A2 = some ⟨B2, 0, none⟩ ∧ Holds X2 B2 ys ∧ B2 ≠ g ∧ B2 < X2.heap.size) (hb : Below X2.heap.size X2 X3) (hg : X3.grownBy X4 (Value.slice (some ⟨g, 0, none⟩) k c).ownBlock) : X4.rangeAt B2 0 ys := by
  obtain ⟨-, h1, h2, h3⟩ := h
  have h4 : Holds X4 B2 ys := (h1.block (hb.block _ h3)).block (hg.block _ (Nat.lt_of_lt_of_le h3 hb.size) (fun e => h2 (Option.some.inj e)))
  exact h4.2
set_option maxHeartbeats 4000000 in
set_option maxRecDepth 100000 in
theorem refKnown20 (R : RF) (w : World) (hR : R.Is w) (hl : R.l.length ≤ 100000) (hgd : ∀ y ∈ R.l, y.k = true → vS y.v.s = true ∧ y.v.s.size ≤ 1048576) (hds : ∀ (i j : Nat) (y z : SY), R.l[i]? = some y → R.l[j]? = some z → y.k = true → z.k = true → y.v.s = z.v.s → i = j) : Calls Tryz.prog 20 #[.pointer (some ⟨R.r, 0, none⟩)] w fun e w' => ∃ (v : Value) (ts : List ByteArray), e = .returned v ∧ w'.ownsRow w.heap.size 9 1 v ts.length (ts.map Value.string) ∧ ts.Pairwise ltS ∧ (∀ x, x ∈ ts ↔ ∃ (j : Nat) (y : SY), R.l[j]? = some y ∧ y.k = true ∧ y.v.s = x) ∧ ts.length ≤ R.l.length ∧ Below w.heap.size w w' := by
  have HR := hide hR
  obtain ⟨A, c, hv⟩ := hR.own.form
  obtain ⟨r, sv, l⟩ := R
  dsimp only at *
  subst hv
  have HLL := hide hl
  have HGD := hide hgd
  have HDS := hide hds
  clear hR hl hgd hds
  go_enter Tryz.func20, Tryz.ntmps20
  go_wp2_with fail
  go_loopg [3, 4] l.length (fun gm s3 s4 wr => ∃ (i : Nat) (ts : List ByteArray), s4 = .int .i64 i ∧ i ≤ l.length ∧ l.length - i ≤ gm ∧ Hid (KN w wr l i s3 ts))
  case atStart => exact ⟨0, [], rfl, by omega, by omega, hide ⟨⟨rfl, .inl ⟨rfl, rfl⟩⟩, fun _ => rfl, List.Pairwise.nil, fun x => ⟨(fun h => by cases h), (fun ⟨j, y, h, _⟩ => by omega)⟩, by simp, Fr.refl _ _⟩⟩
  case round =>
    obtain ⟨i, ts, rfl, hi, hgm, HK⟩ := hrel
    have HFR := hide (unhide HK).fr
    by_cases hlt : i < l.length
    · have hlz : decide ((i : Int) < (l.length : Int)) = true := decide_eq_true (by omega)
      obtain ⟨g0, c0, hv, -⟩ := (unhide HR).own.row i hlt
      cases hv
      obtain ⟨y, hyq⟩ : ∃ y, l[i]? = some y := ⟨_, List.getElem?_eq_getElem hlt⟩
      have HG : Hid (∀ X, Fr w X [] → X.rangeAt g0 (i * 6) y.cs) := hide (fun X hX => OwnS.rowQ (l := l) ((unhide HR).fr hX (by simp)).own hyq)
      have HLT := hide hlt
      have HI1 : Hid (i < 1000000) := hide (by have := unhide HLL; omega)
      have hw1 : IntKind.i64.wrap ((i : Int) + 1) = (i : Int) + 1 := by have := unhide HLL; rw [IntKind.wrap_i64]; omega
      obtain ⟨⟨k0, b0, x0, s, i0⟩, kk⟩ := y
      have HY := hide hyq
      clear hyq hlt
      cases kk
      · have FIN := hide ((unhide HK).skip (unhide HY) rfl)
        go_wp2_with (first | go_skip | ((with_reducible show wpList _ _ _ _ _ _); first | ((refine rd (by rfl) (ex_load1 39 Tryz.isAgg39 rfl rfl (((unhide HR).fr (unhide HFR) (by simp)).hold) rfl) ?_); simp only [Act.put, List.setIfInBounds_toArray, List.set_cons_succ, List.set_cons_zero]) | ((refine rd (by rfl) (ex_lenG 39 81 Tryz.underlying39 rfl rfl) ?_); simp only [Act.put, List.setIfInBounds_toArray, List.set_cons_succ, List.set_cons_zero]) | ((refine rd (by rfl) (ex_indexG 39 6 i und68 idx68 rfl rfl rfl (unhide HLT)) ?_); simp only [Act.put, List.setIfInBounds_toArray, List.set_cons_succ, List.set_cons_zero]) | ((refine rd (by rfl) (ex_loadC 4 Tryz.isAgg4 rfl rfl (unhide HG _ (unhide HFR) 5 _ rfl)) ?_); simp only [Act.put, List.setIfInBounds_toArray, List.set_cons_succ, List.set_cons_zero])))
        go_roundg (l.length - (i + 1))
        case measure => have := unhide HLT; omega
        case rel => exact ⟨i + 1, ts, by go_num, by have := unhide HLT; omega, by omega, FIN⟩
      · have hgs := unhide HGD _ (List.mem_of_getElem? (unhide HY)) rfl
        dsimp only at hgs
        have HGS := hide hgs
        have hns : s ∉ ts := fun hm => by
          obtain ⟨j, z, a1, a2, a3, a4⟩ := ((unhide HK).mem s).1 hm
          have := unhide HDS j i z _ a2 (unhide HY) a3 rfl a4
          omega
        have HNS := hide hns
        have HTV : Hid (∀ x ∈ ts, vS x = true ∧ x.size ≤ 1048576) := hide (fun x hx => by obtain ⟨j, z, a1, a2, a3, a4⟩ := ((unhide HK).mem x).1 hx; rw [← a4]; exact unhide HGD z (List.mem_of_getElem? a2) a3)
        clear hgs hns
        obtain ⟨AV, cv, hvf⟩ := own_form (unhide HK).own
        subst hvf
        go_wp2_with (first | go_skip | ((with_reducible show wpList _ _ _ _ _ _); first | ((refine rd (by rfl) (ex_load1 39 Tryz.isAgg39 rfl rfl (((unhide HR).fr (unhide HFR) (by simp)).hold) rfl) ?_); simp only [Act.put, List.setIfInBounds_toArray, List.set_cons_succ, List.set_cons_zero]) | ((refine rd (by rfl) (ex_lenG 39 81 Tryz.underlying39 rfl rfl) ?_); simp only [Act.put, List.setIfInBounds_toArray, List.set_cons_succ, List.set_cons_zero]) | ((refine rd (by rfl) (ex_lenG 53 9 Tryz.underlying53 rfl rfl) ?_); simp only [Act.put, List.setIfInBounds_toArray, List.set_cons_succ, List.set_cons_zero]) | ((refine rd (by rfl) (ex_indexG 39 6 i und68 idx68 rfl rfl rfl (unhide HLT)) ?_); simp only [Act.put, List.setIfInBounds_toArray, List.set_cons_succ, List.set_cons_zero]) | ((refine rd (by rfl) (ex_loadC 4 Tryz.isAgg4 rfl rfl (unhide HG _ (unhide HFR) 5 _ rfl)) ?_); simp only [Act.put, List.setIfInBounds_toArray, List.set_cons_succ, List.set_cons_zero]) | ((refine rd (by rfl) (ex_loadC 9 Tryz.isAgg9 rfl rfl (unhide HG _ (unhide HFR) 3 _ rfl)) ?_); simp only [Act.put, List.setIfInBounds_toArray, List.set_cons_succ, List.set_cons_zero])))
        obtain ⟨wo, hwo⟩ : ∃ wo, wo = wr := ⟨wr, rfl⟩
        subst hwo
        rw [decide_eq_true (unhide HLT)]
        simp only [Nat.zero_add]
        go_loopg [6] ts.length (fun gm s6 wr2 => ∃ k : Nat, s6 = .int .i64 k ∧ k ≤ ts.length ∧ k ≤ gm ∧ Hid (∀ j x, ts[j]? = some x → k ≤ j → ltS s x) ∧ Hid (Below wo.heap.size wo wr2))
        case atStart => exact ⟨ts.length, rfl, Nat.le_refl _, Nat.le_refl _, hide (fun j x hx hj => by have := (List.getElem?_eq_some_iff.1 hx).1; omega), hide (Below.refl _ _)⟩
        case round =>
          obtain ⟨k, rfl, hkl, hkg, HA, HBW⟩ := hrel
          replace HFR := hide ((unhide HFR).on (unhide HBW))
          have HOW := hide (own_blk (unhide HK).own (fun q hq => (unhide HBW).block q ((World.ownsRow.lt (unhide HK).own q hq).2)))
          cases k with
          | zero =>
            by_cases hts : ts = []
            · have hn := (unhide HK).nil hts
              subst hts
              simp only [List.length_nil, Value.slice.injEq, true_and] at hn
              obtain ⟨rfl, rfl⟩ := hn
              clear hkl hkg HA HOW
              go_wp2_with (first | go_skip | ((with_reducible show wpList _ _ _ _ _ _); first | ((refine none53 w.heap.size (unhide HFR).size (by rfl) rfl ?_); intro X1 B1 hE1 hO1 hb1; have HX1 := hide (And.intro hE1 (And.intro hO1 hb1)); replace HFR := hide ((unhide HFR).on hb1); clear hE1 hO1 hb1; simp only [Act.put, List.setIfInBounds_toArray, List.set_cons_succ, List.set_cons_zero]) | ((refine rd (by rfl) (ex_sll (v := .slice none 0 0) (u := .slice none 0 0) (p := 0) rfl rfl rfl (sl_n1 _)) ?_); simp only [Act.put, List.setIfInBounds_toArray, List.set_cons_succ, List.set_cons_zero]) | ((refine app_none (v := .slice (some ⟨B1, 0, none⟩) 0 0) (by rfl) rfl rfl rfl (unhide HX1).2.1 ?_); simp only [Act.put, List.setIfInBounds_toArray, List.set_cons_succ, List.set_cons_zero]) | ((refine rd (by rfl) (ex_slh (v := .slice none 0 0) (u := .slice none 0 0) (p := 0) rfl rfl rfl (sl_n2 _)) ?_); simp only [Act.put, List.setIfInBounds_toArray, List.set_cons_succ, List.set_cons_zero]) | ((refine build_any (t := 53) (e := 9) (size := 1) (bytes := 16) (z := .string ⟨#[]⟩) (cs := [.string s]) (E := []) (by rfl) rfl rfl Tryz.underlying53 info9 (by decide) rfl rfl (by decide) (Hq.nil X1 []) ?_); intro X3 B3 hE3 L3 hb3; have HX3 := hide (And.intro L3 hb3); replace HFR := hide ((unhide HFR).on hb3); clear hE3 L3 hb3; simp only [Act.put, List.setIfInBounds_toArray, List.set_cons_succ, List.set_cons_zero]) | ((refine append_any (v := .slice none 0 0) (base := w.heap.size) (n := 0) (xs := []) rfl rfl rfl rfl Tryz.underlying53 info9 rfl (by decide) ⟨rfl, .inl ⟨rfl, rfl⟩⟩ ((unhide HX3).1.get 0 rfl) rfl (by simp [Value.oneCell']) (by omega) (by decide) (unhide HFR).size ?_); intro A4 c4 X4 hO4 hg4 hf4; have HX4 := hide (And.intro hO4 (And.intro hg4 hf4)); replace HFR := hide ((unhide HFR).trans (Fr.grown hg4) (by simp [Value.ownBlock])); clear hO4 hg4 hf4; simp only [Act.put, List.setIfInBounds_toArray, List.set_cons_succ, List.set_cons_zero]) | ((refine app_off (v := .slice A4 (0 + 1) c4) (base := w.heap.size) (B := B1) (off := 0) (m := 0) (c := 0) (news := []) (by rfl) rfl rfl rfl (unhide HX4).1 (fun j v hv => by simp at hv) rfl (by simp) (by omega) (unhide HFR).size ?_); intro A5 c5 X5 hO5 hg5 hf5; have HX5 := hide (And.intro hO5 ((unhide HFR).trans (Fr.grown hg5) (fun b hb => .inr ((World.ownsRow.lt (unhide HX4).1 b (by simpa using hb)).1)))); clear hO5 hg5 hf5; simp only [Act.put, List.setIfInBounds_toArray, List.set_cons_succ, List.set_cons_zero]) | ((refine rd (by rfl) (ex_add1 (n := i) rfl rfl rfl (unhide HI1)) ?_); simp only [Act.put, List.setIfInBounds_toArray, List.set_cons_succ, List.set_cons_zero])))
              have FIN : Hid (KN w X5 l (i + 1) (.slice A5 (0 + 1 + 0) c5) ([] ++ ([s] ++ []))) := hide ((unhide HK).put (k := 0) (unhide HY) rfl (by omega) (fun j x hx => by simp at hx) (fun x h0 => by omega) (unhide HX5).1 (unhide HX5).2)
              go_roundg (l.length - (i + 1))
              case measure => have := unhide HLT; omega
              case rel => exact ⟨i + 1, [] ++ ([s] ++ []), by go_num, by have := unhide HLT; omega, by omega, FIN⟩
            · have hpos : 0 < ts.length := List.length_pos_iff.2 hts
              have his : (Value.slice AV ts.length cv).ownBlock.isSome = true := by
                rcases (unhide HOW).2 with ⟨h1, h0⟩ | ⟨g, c1, cur, h1, -⟩
                · omega
                · rw [h1]; rfl
              obtain ⟨g, hA, hgo, hcap⟩ := some_form (unhide HOW) his
              subst hA
              have HCAP := hide hcap
              have HGG := hide (World.ownsRow.lt (unhide HOW) g rfl).1
              obtain ⟨K, hK0⟩ : ∃ K, K = 0 := ⟨_, rfl⟩
              have HKL : Hid (K ≤ ts.length) := hide (by omega)
              have HP : Hid ((∀ j x, ts[j]? = some x → K ≤ j → ltS s x) ∧ (∀ x, 0 < K → ts[K - 1]? = some x → ltS x s)) := hide ⟨fun j x hx _ => unhide HA j x hx (Nat.zero_le _), fun x h => by omega⟩
              obtain ⟨KI, hKI⟩ : ∃ KI : Int, KI = ((0 : Nat) : Int) := ⟨_, rfl⟩
              have HKI : Hid (KI = (K : Nat)) := hide (by rw [hKI, hK0])
              have hkz : decide ((0 : Int) < KI) = false := by rw [hKI]; rfl
              rw [← hKI]
              generalize hcv : cv = cap at *
              clear hkl hkg hts hpos his hgo hcap hKI hcv hK0
              obtain ⟨off, hoff, hsl⟩ := sl_l g ts.length cap K (unhide HKL) (unhide HCAP)
              have HSL := hide hsl
              have HOFF := hide hoff
              clear hsl hoff
              obtain ⟨MR, hMR⟩ : ∃ MR, MR = ts.length - K := ⟨_, rfl⟩
              have HMR := hide hMR
              clear hMR
              go_wp2_with (first | go_skip | ((with_reducible show wpList _ _ _ _ _ _); first | ((refine none53 w.heap.size (unhide HFR).size (by rfl) rfl ?_); intro X1 B1 hE1 hO1 hb1; have HX1 := hide (And.intro hE1 (And.intro hO1 hb1)); replace HFR := hide ((unhide HFR).on hb1); clear hE1 hO1 hb1; simp only [Act.put, List.setIfInBounds_toArray, List.set_cons_succ, List.set_cons_zero]) | ((refine rd (by rfl) (ex_sll (p := KI) (u := .slice (some ⟨g, off, none⟩) MR (cap - K)) rfl rfl rfl (by rw [unhide HKI, unhide HMR]; exact unhide HSL _)) ?_); simp only [Act.put, List.setIfInBounds_toArray, List.set_cons_succ, List.set_cons_zero]) | ((refine app_off0 (v := .slice (some ⟨B1, 0, none⟩) 0 0) (base := w.heap.size) (m := MR) (news := (ts.drop K).map Value.string) (by rfl) rfl rfl rfl (unhide HX1).2.1 (drop_range (own_holds (own_blk (unhide HOW) (fun q hq => (unhide HX1).2.2.block q ((World.ownsRow.lt (unhide HOW) q hq).2)))) (unhide HOFF)) (by rw [unhide HMR]; simp) (str_one _) (by have h1 := (unhide HK).len; have h2 := unhide HLL; have h3 := unhide HLT; have h4 := unhide HKL; have h5 := unhide HMR; omega) (unhide HFR).size ?_); intro A2 c2 X2 hO2 hg2 hf2; have HX2 := hide (rest_facts (unhide HX1).1 (unhide HX1).2.2 (unhide HOW) hO2 hg2 hf2); replace HFR := hide ((unhide HFR).trans (Fr.grown hg2) (fun b hb => .inr ((World.ownsRow.lt (unhide HX1).2.1 b (by simpa using hb)).1))); clear hO2 hg2 hf2; simp only [Act.put, List.setIfInBounds_toArray, List.set_cons_succ, List.set_cons_zero]) | ((refine rd (by rfl) (ex_slh (p := KI) (u := .slice (some ⟨g, 0, none⟩) K cap) rfl rfl rfl (by rw [unhide HKI]; exact sl_h g ts.length cap K (Nat.le_trans (unhide HKL) (unhide HCAP)) _)) ?_); simp only [Act.put, List.setIfInBounds_toArray, List.set_cons_succ, List.set_cons_zero]) | ((refine build_any (t := 53) (e := 9) (size := 1) (bytes := 16) (z := .string ⟨#[]⟩) (cs := [.string s]) (E := []) (by rfl) rfl rfl Tryz.underlying53 info9 (by decide) rfl rfl (by decide) (Hq.nil X2 []) ?_); intro X3 B3 hE3 L3 hb3; have HX3 := hide (And.intro L3 hb3); replace HFR := hide ((unhide HFR).on hb3); clear hE3 L3 hb3; simp only [Act.put, List.setIfInBounds_toArray, List.set_cons_succ, List.set_cons_zero]) | ((refine append_any (v := .slice (some ⟨g, 0, none⟩) K cap) (base := w.heap.size) (n := K) (xs := (ts.map Value.string).take K) rfl rfl rfl rfl Tryz.underlying53 info9 rfl (by decide) (own_cut (own_blk (unhide HX2).1 (fun q hq => (unhide HX3).2.block q ((World.ownsRow.lt (unhide HX2).1 q hq).2))) (unhide HKL)) ((unhide HX3).1.get 0 rfl) rfl (by simp [Value.oneCell']) (by have h1 := (unhide HK).len; have h2 := unhide HLL; have h3 := unhide HLT; have h4 := unhide HKL; have h5 := unhide HMR; omega) (by decide) (unhide HFR).size ?_); intro A4 c4 X4 hO4 hg4 hf4; have HX4 := hide (And.intro hO4 (And.intro hg4 hf4)); replace HFR := hide ((unhide HFR).trans (Fr.grown hg4) (fun b hb => .inr (by obtain rfl : b = g := (by simpa [Value.ownBlock] using hb); exact (unhide HGG)))); clear hO4 hg4 hf4; simp only [Act.put, List.setIfInBounds_toArray, List.set_cons_succ, List.set_cons_zero]) | ((refine app_off (v := .slice A4 (K + 1) c4) (base := w.heap.size) (B := (unhide HX2).2.choose) (off := 0) (m := MR) (c := c2) (news := (ts.drop K).map Value.string) (by rfl) rfl rfl (congrArg (fun A => Value.slice A MR c2) (unhide HX2).2.choose_spec.1) (unhide HX4).1 (rest_range (unhide HX2).2.choose_spec (unhide HX3).2 (unhide HX4).2.1) (by rw [unhide HMR]; simp) (str_one _) (by have h1 := (unhide HK).len; have h2 := unhide HLL; have h3 := unhide HLT; have h4 := unhide HKL; have h5 := unhide HMR; omega) (unhide HFR).size ?_); intro A5 c5 X5 hO5 hg5 hf5; have HX5 := hide (And.intro hO5 ((unhide HFR).trans (Fr.grown hg5) (fun b hb => .inr ((World.ownsRow.lt (unhide HX4).1 b (by simpa using hb)).1)))); clear hO5 hg5 hf5; simp only [Act.put, List.setIfInBounds_toArray, List.set_cons_succ, List.set_cons_zero]) | ((refine rd (by rfl) (ex_add1 (n := i) rfl rfl rfl (unhide HI1)) ?_); simp only [Act.put, List.setIfInBounds_toArray, List.set_cons_succ, List.set_cons_zero])))
              have hnn : K + 1 + MR = ts.length + 1 := by have h1 := unhide HKL; have h2 := unhide HMR; omega
              have FIN : Hid (KN w X5 l (i + 1) (.slice A5 (K + 1 + MR) c5) (ts.take K ++ ([s] ++ ts.drop K))) := hide ((unhide HK).put (k := K) (unhide HY) rfl (unhide HKL) (unhide HP).1 (unhide HP).2 (by have h := (unhide HX5).1; rw [hnn, ← List.map_take] at h; rw [hnn]; exact h) (unhide HX5).2)
              go_roundg (l.length - (i + 1))
              case measure => have := unhide HLT; omega
              case rel => exact ⟨i + 1, _, by go_num, by have := unhide HLT; omega, by omega, FIN⟩
          | succ kp =>
            have hpos : kp < ts.length := by omega
            have his : (Value.slice AV ts.length cv).ownBlock.isSome = true := by
              rcases (unhide HOW).2 with ⟨h1, h0⟩ | ⟨g, c1, cur, h1, -⟩
              · omega
              · rw [h1]; rfl
            obtain ⟨g, hA, hgo, hcap⟩ := some_form (unhide HOW) his
            subst hA
            have HCAP := hide hcap
            have HGG := hide (World.ownsRow.lt (unhide HOW) g rfl).1
            have HKL : Hid (kp + 1 ≤ ts.length) := hide hkl
            obtain ⟨x, hx⟩ : ∃ x, ts[kp]? = some x := ⟨_, List.getElem?_eq_getElem hpos⟩
            have hxm := List.mem_of_getElem? hx
            have HCX : Hid (wr.cell? ⟨g, 0 + kp * 1, none⟩ = some (.string x)) := hide (by have := (own_holds (unhide HOW)).cell kp (v := .string x) (by rw [List.getElem?_map, hx]; rfl); simpa using this)
            have HAB := hide (fun X => above43 x s (unhide HTV x hxm).1 (unhide HGS).1 (unhide HTV x hxm).2 (unhide HGS).2 X)
            have hxs : x ≠ s := fun e => unhide HNS (e ▸ hxm)
            have HXS := hide hxs
            have HX := hide hx
            have HXV := hide (unhide HTV x hxm)
            have HPO := hide hpos
            have HP6 : Hid (kp < 1000000) := hide (by have h1 := (unhide HK).len; have h2 := unhide HLL; have h3 := unhide HLT; omega)
            obtain ⟨KI, hKI⟩ : ∃ KI : Int, KI = ((kp + 1 : Nat) : Int) := ⟨_, rfl⟩
            have HKI := hide hKI
            have hkz : decide ((0 : Int) < KI) = true := decide_eq_true (by omega)
            rw [← hKI]
            generalize hcv : cv = cap at *
            clear hkl hpos his hgo hcap hKI hcv hx hxm hxs
            by_cases hab : 0 < M.cmpL (unS x) (unS s)
            · rw [decide_eq_true hab] at HAB
              have HGT := hide (gt_lt hab)
              clear hab
              go_wp2_with (first | go_skip | ((with_reducible show wpList _ _ _ _ _ _); first | ((refine rd (by rfl) (ex_sub1 rfl (congrArg _ (unhide HKI)) rfl (unhide HP6)) ?_); simp only [Act.put, List.setIfInBounds_toArray, List.set_cons_succ, List.set_cons_zero]) | ((refine rd (by rfl) (ex_indexG 53 1 kp und53 idx53 rfl rfl rfl (unhide HPO)) ?_); simp only [Act.put, List.setIfInBounds_toArray, List.set_cons_succ, List.set_cons_zero]) | ((refine rd (by rfl) (ex_loadC 9 Tryz.isAgg9 rfl rfl (unhide HCX)) ?_); simp only [Act.put, List.setIfInBounds_toArray, List.set_cons_succ, List.set_cons_zero])))
              refine (unhide HAB _).mono ?_
              rintro e X7 ⟨rfl, hb7⟩
              have HB7 := hide ((unhide HBW).trans (hb7.mono (unhide HBW).size))
              clear hb7
              go_wp2_with (first | go_skip | ((with_reducible show wpList _ _ _ _ _ _); first | ((refine rd (by rfl) (ex_sub1 rfl (congrArg _ (unhide HKI)) rfl (unhide HP6)) ?_); simp only [Act.put, List.setIfInBounds_toArray, List.set_cons_succ, List.set_cons_zero])))
              go_roundg kp
              case measure => omega
              case rel => exact ⟨kp, rfl, by have := unhide HPO; omega, Nat.le_refl _, hide (fun j z hz hj => by
                by_cases e : j = kp
                · subst e
                  rw [unhide HX] at hz
                  rw [← Option.some.inj hz]
                  exact unhide HGT
                · exact unhide HA j z hz (by omega)), HB7⟩
            · have HP : Hid ((∀ j z, ts[j]? = some z → kp + 1 ≤ j → ltS s z) ∧ (∀ z, 0 < kp + 1 → ts[kp + 1 - 1]? = some z → ltS z s)) := hide ⟨unhide HA, fun z _ hz => by
                have e : kp + 1 - 1 = kp := by omega
                rw [e, unhide HX] at hz
                rw [← Option.some.inj hz]
                exact un_lt (unhide HXV).1 (unhide HGS).1 (unhide HXS) hab⟩
              rw [decide_eq_false hab] at HAB
              clear hab hkg
              go_wp2_with (first | go_skip | ((with_reducible show wpList _ _ _ _ _ _); first | ((refine rd (by rfl) (ex_sub1 rfl (congrArg _ (unhide HKI)) rfl (unhide HP6)) ?_); simp only [Act.put, List.setIfInBounds_toArray, List.set_cons_succ, List.set_cons_zero]) | ((refine rd (by rfl) (ex_indexG 53 1 kp und53 idx53 rfl rfl rfl (unhide HPO)) ?_); simp only [Act.put, List.setIfInBounds_toArray, List.set_cons_succ, List.set_cons_zero]) | ((refine rd (by rfl) (ex_loadC 9 Tryz.isAgg9 rfl rfl (unhide HCX)) ?_); simp only [Act.put, List.setIfInBounds_toArray, List.set_cons_succ, List.set_cons_zero])))
              refine (unhide HAB _).mono ?_
              rintro e X7 ⟨rfl, hb7⟩
              replace HFR := hide ((unhide HFR).on hb7)
              replace HOW := hide (own_blk (unhide HOW) (fun q hq => hb7.block q ((World.ownsRow.lt (unhide HOW) q hq).2)))
              clear hb7
              obtain ⟨K, hKK⟩ : ∃ K, K = kp + 1 := ⟨_, rfl⟩
              rw [← hKK] at HKL HP HKI
              clear hKK
              obtain ⟨off, hoff, hsl⟩ := sl_l g ts.length cap K (unhide HKL) (unhide HCAP)
              have HSL := hide hsl
              have HOFF := hide hoff
              clear hsl hoff
              obtain ⟨MR, hMR⟩ : ∃ MR, MR = ts.length - K := ⟨_, rfl⟩
              have HMR := hide hMR
              clear hMR
              go_wp2_with (first | go_skip | ((with_reducible show wpList _ _ _ _ _ _); first | ((refine none53 w.heap.size (unhide HFR).size (by rfl) rfl ?_); intro X1 B1 hE1 hO1 hb1; have HX1 := hide (And.intro hE1 (And.intro hO1 hb1)); replace HFR := hide ((unhide HFR).on hb1); clear hE1 hO1 hb1; simp only [Act.put, List.setIfInBounds_toArray, List.set_cons_succ, List.set_cons_zero]) | ((refine rd (by rfl) (ex_sll (p := KI) (u := .slice (some ⟨g, off, none⟩) MR (cap - K)) rfl rfl rfl (by rw [unhide HKI, unhide HMR]; exact unhide HSL _)) ?_); simp only [Act.put, List.setIfInBounds_toArray, List.set_cons_succ, List.set_cons_zero]) | ((refine app_off0 (v := .slice (some ⟨B1, 0, none⟩) 0 0) (base := w.heap.size) (m := MR) (news := (ts.drop K).map Value.string) (by rfl) rfl rfl rfl (unhide HX1).2.1 (drop_range (own_holds (own_blk (unhide HOW) (fun q hq => (unhide HX1).2.2.block q ((World.ownsRow.lt (unhide HOW) q hq).2)))) (unhide HOFF)) (by rw [unhide HMR]; simp) (str_one _) (by have h1 := (unhide HK).len; have h2 := unhide HLL; have h3 := unhide HLT; have h4 := unhide HKL; have h5 := unhide HMR; omega) (unhide HFR).size ?_); intro A2 c2 X2 hO2 hg2 hf2; have HX2 := hide (rest_facts (unhide HX1).1 (unhide HX1).2.2 (unhide HOW) hO2 hg2 hf2); replace HFR := hide ((unhide HFR).trans (Fr.grown hg2) (fun b hb => .inr ((World.ownsRow.lt (unhide HX1).2.1 b (by simpa using hb)).1))); clear hO2 hg2 hf2; simp only [Act.put, List.setIfInBounds_toArray, List.set_cons_succ, List.set_cons_zero]) | ((refine rd (by rfl) (ex_slh (p := KI) (u := .slice (some ⟨g, 0, none⟩) K cap) rfl rfl rfl (by rw [unhide HKI]; exact sl_h g ts.length cap K (Nat.le_trans (unhide HKL) (unhide HCAP)) _)) ?_); simp only [Act.put, List.setIfInBounds_toArray, List.set_cons_succ, List.set_cons_zero]) | ((refine build_any (t := 53) (e := 9) (size := 1) (bytes := 16) (z := .string ⟨#[]⟩) (cs := [.string s]) (E := []) (by rfl) rfl rfl Tryz.underlying53 info9 (by decide) rfl rfl (by decide) (Hq.nil X2 []) ?_); intro X3 B3 hE3 L3 hb3; have HX3 := hide (And.intro L3 hb3); replace HFR := hide ((unhide HFR).on hb3); clear hE3 L3 hb3; simp only [Act.put, List.setIfInBounds_toArray, List.set_cons_succ, List.set_cons_zero]) | ((refine append_any (v := .slice (some ⟨g, 0, none⟩) K cap) (base := w.heap.size) (n := K) (xs := (ts.map Value.string).take K) rfl rfl rfl rfl Tryz.underlying53 info9 rfl (by decide) (own_cut (own_blk (unhide HX2).1 (fun q hq => (unhide HX3).2.block q ((World.ownsRow.lt (unhide HX2).1 q hq).2))) (unhide HKL)) ((unhide HX3).1.get 0 rfl) rfl (by simp [Value.oneCell']) (by have h1 := (unhide HK).len; have h2 := unhide HLL; have h3 := unhide HLT; have h4 := unhide HKL; have h5 := unhide HMR; omega) (by decide) (unhide HFR).size ?_); intro A4 c4 X4 hO4 hg4 hf4; have HX4 := hide (And.intro hO4 (And.intro hg4 hf4)); replace HFR := hide ((unhide HFR).trans (Fr.grown hg4) (fun b hb => .inr (by obtain rfl : b = g := (by simpa [Value.ownBlock] using hb); exact (unhide HGG)))); clear hO4 hg4 hf4; simp only [Act.put, List.setIfInBounds_toArray, List.set_cons_succ, List.set_cons_zero]) | ((refine app_off (v := .slice A4 (K + 1) c4) (base := w.heap.size) (B := (unhide HX2).2.choose) (off := 0) (m := MR) (c := c2) (news := (ts.drop K).map Value.string) (by rfl) rfl rfl (congrArg (fun A => Value.slice A MR c2) (unhide HX2).2.choose_spec.1) (unhide HX4).1 (rest_range (unhide HX2).2.choose_spec (unhide HX3).2 (unhide HX4).2.1) (by rw [unhide HMR]; simp) (str_one _) (by have h1 := (unhide HK).len; have h2 := unhide HLL; have h3 := unhide HLT; have h4 := unhide HKL; have h5 := unhide HMR; omega) (unhide HFR).size ?_); intro A5 c5 X5 hO5 hg5 hf5; have HX5 := hide (And.intro hO5 ((unhide HFR).trans (Fr.grown hg5) (fun b hb => .inr ((World.ownsRow.lt (unhide HX4).1 b (by simpa using hb)).1)))); clear hO5 hg5 hf5; simp only [Act.put, List.setIfInBounds_toArray, List.set_cons_succ, List.set_cons_zero]) | ((refine rd (by rfl) (ex_add1 (n := i) rfl rfl rfl (unhide HI1)) ?_); simp only [Act.put, List.setIfInBounds_toArray, List.set_cons_succ, List.set_cons_zero])))
              have hnn : K + 1 + MR = ts.length + 1 := by have h1 := unhide HKL; have h2 := unhide HMR; omega
              have FIN : Hid (KN w X5 l (i + 1) (.slice A5 (K + 1 + MR) c5) (ts.take K ++ ([s] ++ ts.drop K))) := hide ((unhide HK).put (k := K) (unhide HY) rfl (unhide HKL) (unhide HP).1 (unhide HP).2 (by have h := (unhide HX5).1; rw [hnn, ← List.map_take] at h; rw [hnn]; exact h) (unhide HX5).2)
              go_roundg (l.length - (i + 1))
              case measure => have := unhide HLT; omega
              case rel => exact ⟨i + 1, _, by go_num, by have := unhide HLT; omega, by omega, FIN⟩
    · have hil : i = l.length := by omega
      subst hil
      clear hlt hi hgm
      go_wp2_with (first | go_skip | ((with_reducible show wpList _ _ _ _ _ _); first | ((refine rd (by rfl) (ex_load1 39 Tryz.isAgg39 rfl rfl (((unhide HR).fr (unhide HFR) (by simp)).hold) rfl) ?_); simp only [Act.put, List.setIfInBounds_toArray, List.set_cons_succ, List.set_cons_zero]) | ((refine rd (by rfl) (ex_lenG 39 81 Tryz.underlying39 rfl rfl) ?_); simp only [Act.put, List.setIfInBounds_toArray, List.set_cons_succ, List.set_cons_zero])))
      go_ret
      exact ⟨_, ts, rfl, (unhide HK).own, (unhide HK).srt, fun x => ((unhide HK).mem x).trans ⟨fun ⟨j, y, _, h2, h3, h4⟩ => ⟨j, y, h2, h3, h4⟩, fun ⟨j, y, h2, h3, h4⟩ => ⟨j, y, (List.getElem?_eq_some_iff.1 h2).1, h2, h3, h4⟩⟩, (unhide HK).len, (unhide HK).fr.below⟩
end Go.Proofs.YtkpfikeggleenaaGreatDoor

/-! Xi -/
namespace Go.Proofs.YtkpfikeggleenaaGreatDoor
open Go Go.Proofs Go.Maps Go.RowKit
set_option linter.unusedSimpArgs false
set_option linter.unusedVariables false
set_option maxHeartbeats 1000000
/-- Both registries of one place. -/
structure RL (l : List SY) (F : ByteArray → Option Nat) : Prop where
  k1 : ∀ s, OkS s → ∀ k, F s = some k → (sV s).good = true ∧ ∃ j, k = j + 1 ∧ l[j]? = some (SY.mk (sV s) true)
  k2 : ∀ (j : Nat) (y : SY), l[j]? = some y → y.k = true → ∃ s, y = SY.mk (sV s) true ∧ OkS s ∧ F s = some (j + 1)
structure RP (W : World) (R : RG) (Q : RF) (n sz : Nat) (F : ByteArray → Option Nat) : Prop where
  own : R.Is W n sz F
  ref : Q.Is W
  eq : Q.l = R.l
  rl : RL R.l F
  len : R.l.length ≤ 65536
  bn : n ≤ 65536
  bs : sz ≤ R.l.length
section
variable {W W' : World} {R : RG} {Q : RF} {n sz : Nat} {F : ByteArray → Option Nat}
theorem RP.on (h : RP W R Q n sz F) (hb : Below W.heap.size W W') : RP W' R Q n sz F := ⟨h.own.on hb, h.ref.on hb, h.eq, h.rl, h.len, h.bn, h.bs⟩
theorem RP.fr {E : List Nat} (h : RP W R Q n sz F) (hb : Fr W W' E) (h1 : ∀ b ∈ R.blocks, b ∉ E) (h2 : ∀ b ∈ Q.blocks, b ∉ E) : RP W' R Q n sz F := ⟨h.own.fr hb h1, h.ref.fr hb h2, h.eq, h.rl, h.len, h.bn, h.bs⟩
theorem RP.drew (h : RP W R Q n sz F) : RP W.drew R Q n sz F := h.fr (E := []) (Fr.refl W []).drew (by simp) (by simp)
theorem RL.good (h : RL R.l F) : ∀ y ∈ R.l, y.k = true → vS y.v.s = true ∧ y.v.s.size ≤ 1048576 := by
  intro y hy hk
  obtain ⟨j, hj⟩ := List.getElem?_of_mem hy
  obtain ⟨s, rfl, hs, hF⟩ := h.k2 j y hj hk
  exact sV_vS (h.k1 s hs _ hF).1
theorem RL.apart (h : RL R.l F) : ∀ (i j : Nat) (y z : SY), R.l[i]? = some y → R.l[j]? = some z → y.k = true → z.k = true → y.v.s = z.v.s → i = j := by
  intro i j y z hy hz hyk hzk e
  obtain ⟨s, rfl, hs, hF⟩ := h.k2 i y hy hyk
  obtain ⟨t, rfl, ht, hG⟩ := h.k2 j z hz hzk
  have e2 : s = t := e
  subst e2
  rw [hF] at hG
  have := Option.some.inj hG
  omega
theorem RL.texts (h : RL R.l F) {ts us : List ByteArray} (h1 : ts.Pairwise ltS) (h2 : ∀ s, s ∈ ts ↔ OkS s ∧ (F s).isSome = true) (h3 : us.Pairwise ltS) (h4 : ∀ x, x ∈ us ↔ ∃ (j : Nat) (y : SY), R.l[j]? = some y ∧ y.k = true ∧ y.v.s = x) : us = ts := by
  refine sorted_unique us ts h3 h1 (fun x => ?_)
  rw [h2, h4]
  constructor
  · rintro ⟨j, y, hj, hk, rfl⟩
    obtain ⟨s, rfl, hs, hF⟩ := h.k2 j y hj hk
    exact ⟨hs, by show (F s).isSome = true; rw [hF]; rfl⟩
  · rintro ⟨hs, hF⟩
    obtain ⟨k, hk⟩ := Option.isSome_iff_exists.1 hF
    obtain ⟨-, j, -, hj⟩ := h.k1 x hs k hk
    exact ⟨j, _, hj, rfl, rfl⟩
end
/-- Texts, read in a row. -/
def RdT (w : World) (A : Option Addr) (ts : List ByteArray) : Prop := ∀ (j : Nat) (s : ByteArray), ts[j]? = some s → ∃ g, A = some ⟨g, 0, none⟩ ∧ g < w.heap.size ∧ w.cell? ⟨g, 0 + j * 1, none⟩ = some (.string s)
theorem own_rd {w : World} {base n c : Nat} {A : Option Addr} {ts : List ByteArray} (h : w.ownsRow base 9 1 (.slice A n c) n (ts.map Value.string)) : RdT w A ts := by
  intro j s hs
  have hl := h.1
  have hj := (List.getElem?_eq_some_iff.1 hs).1
  rcases h.2 with ⟨h1, h0⟩ | ⟨g, c', cur, h1, h2, h3, -⟩
  · simp at hl
    omega
  · cases h1
    refine ⟨g, rfl, (Array.getElem?_eq_some_iff.1 h3).1, ?_⟩
    have := (own_holds h).cell j (v := .string s) (by rw [List.getElem?_map, hs]; rfl)
    simpa using this
theorem RdT.on {w w' : World} {A : Option Addr} {ts : List ByteArray} (h : RdT w A ts) (hb : Below w.heap.size w w') : RdT w' A ts := by
  intro j s hs
  obtain ⟨g, h1, h2, h3⟩ := h j s hs
  exact ⟨g, h1, Nat.lt_of_lt_of_le h2 hb.size, (World.cell?_of_block (hb.block g h2)).trans h3⟩
theorem RdT.fr {w w' : World} {A : Option Addr} {ts : List ByteArray} {E : List Nat} (h : RdT w A ts) (hb : Fr w w' E) (hE : ∀ g, A = some ⟨g, 0, none⟩ → g ∉ E) : RdT w' A ts := by
  intro j s hs
  obtain ⟨g, h1, h2, h3⟩ := h j s hs
  exact ⟨g, h1, Nat.lt_of_lt_of_le h2 hb.size, (World.cell?_of_block (hb.block g h2 (hE g h1))).trans h3⟩
theorem ex_neS {o : Oper} {a : Act} {w : World} {x y : Operand} {s : ByteArray} (ho : o.op = .binOp .neq 9 x y 9) (hx : a.eval x = .string s) (hy : a.eval y = .string s) : (execOp a.eval o).run Tryz.prog w = .ok (.value (.bool false)) w := by
  unfold execOp
  simp only [ho, hx, hy]
  simp [go_sem, eqGuard]
set_option maxRecDepth 100000 in
theorem sameT (A B : Option Addr) (ca cb : Nat) (ts : List ByteArray) (w : World) (h1 : RdT w A ts) (h2 : RdT w B ts) (hl : ts.length ≤ 100000) : Calls Tryz.prog 22 #[.slice A ts.length ca, .slice B ts.length cb] w fun e w' => e = .returned (.bool true) ∧ Below w.heap.size w w' := by
  have H1 := hide h1
  have H2 := hide h2
  have HL := hide hl
  clear h1 h2 hl
  go_enter Tryz.func22, Tryz.ntmps22
  go_wp2_with (first | go_skip | ((with_reducible show wpList _ _ _ _ _ _); first | ((refine rd (by rfl) (ex_lenG 53 9 Tryz.underlying53 rfl rfl) ?_); simp only [Act.put, List.setIfInBounds_toArray, List.set_cons_succ, List.set_cons_zero])))
  go_loopg [5] ts.length (fun gm s5 wr => ∃ i : Nat, s5 = .int .i64 i ∧ i ≤ ts.length ∧ ts.length - i ≤ gm ∧ Hid (Below w.heap.size w wr))
  case atStart => exact ⟨0, rfl, by omega, by omega, hide (Below.refl _ _)⟩
  case round =>
    obtain ⟨i, rfl, hi, hgm, HB⟩ := hrel
    by_cases hlt : i < ts.length
    · have hlz : decide ((i : Int) < (ts.length : Int)) = true := decide_eq_true (by omega)
      have hw1 : IntKind.i64.wrap ((i : Int) + 1) = (i : Int) + 1 := by have := unhide HL; rw [IntKind.wrap_i64]; omega
      obtain ⟨s, hs⟩ : ∃ s, ts[i]? = some s := ⟨_, List.getElem?_eq_getElem hlt⟩
      obtain ⟨g1, rfl, -, c1⟩ := ((unhide H1).on (unhide HB)) i s hs
      obtain ⟨g2, rfl, -, c2⟩ := ((unhide H2).on (unhide HB)) i s hs
      have HLT := hide hlt
      have HC := hide (And.intro c1 c2)
      clear hs c1 c2 hlt
      go_wp2_with (first | go_skip | ((with_reducible show wpList _ _ _ _ _ _); first | ((refine rd (by rfl) (ex_lenG 53 9 Tryz.underlying53 rfl rfl) ?_); simp only [Act.put, List.setIfInBounds_toArray, List.set_cons_succ, List.set_cons_zero])))
      have s0 : (fun X : World => X.cell? ⟨g1, 0 + i * 1, none⟩ = some (.string s) ∧ X.cell? ⟨g2, 0 + i * 1, none⟩ = some (.string s)) wr.drew := unhide HC
      refine wp_region_held_drew (P := Tryz.prog) (S := fun X : World => X.cell? ⟨g1, 0 + i * 1, none⟩ = some (.string s) ∧ X.cell? ⟨g2, 0 + i * 1, none⟩ = some (.string s)) (by kernel_rfl) s0 (fun hS0 => ?_)
      refine gsem 0 (some 17) (.slice (some ⟨g1, 0, none⟩) ts.length ca) rfl (by kernel_rfl) (by kernel_rfl) (by kernel_rfl) (fun _ _ _ h => h) (by kernel_rfl) (by kernel_rfl) (fun _ _ => by kernel_rfl) s0 ?_
      simp only [Act.put, List.setIfInBounds_toArray, List.set_cons_succ, List.set_cons_zero]
      refine gsem 1 (some 18) (.int .i64 (i : Nat)) rfl (by kernel_rfl) (by kernel_rfl) (by kernel_rfl) (fun _ _ _ h => h) (by kernel_rfl) (by kernel_rfl) (fun _ _ => by kernel_rfl) s0 ?_
      simp only [Act.put, List.setIfInBounds_toArray, List.set_cons_succ, List.set_cons_zero]
      refine gsem 2 (some 19) (.pointer (some ⟨g1, 0 + i * 1, none⟩)) rfl (by kernel_rfl) (by kernel_rfl) (by kernel_rfl) (fun _ _ _ h => h) (by kernel_rfl) (by kernel_rfl) (fun X hX => ex_indexG 53 1 i und53 idx53 rfl rfl rfl (unhide HLT)) s0 ?_
      simp only [Act.put, List.setIfInBounds_toArray, List.set_cons_succ, List.set_cons_zero]
      refine gsem 3 (some 20) (.string s) rfl (by kernel_rfl) (by kernel_rfl) (by kernel_rfl) (fun _ _ _ h => h) (by kernel_rfl) (by kernel_rfl) (fun X hX => ex_loadC 9 Tryz.isAgg9 rfl rfl hX.1) s0 ?_
      simp only [Act.put, List.setIfInBounds_toArray, List.set_cons_succ, List.set_cons_zero]
      refine gsem 4 (some 21) (.slice (some ⟨g2, 0, none⟩) ts.length cb) rfl (by kernel_rfl) (by kernel_rfl) (by kernel_rfl) (fun _ _ _ h => h) (by kernel_rfl) (by kernel_rfl) (fun _ _ => by kernel_rfl) s0 ?_
      simp only [Act.put, List.setIfInBounds_toArray, List.set_cons_succ, List.set_cons_zero]
      refine gsem 5 (some 22) (.int .i64 (i : Nat)) rfl (by kernel_rfl) (by kernel_rfl) (by kernel_rfl) (fun _ _ _ h => h) (by kernel_rfl) (by kernel_rfl) (fun _ _ => by kernel_rfl) s0 ?_
      simp only [Act.put, List.setIfInBounds_toArray, List.set_cons_succ, List.set_cons_zero]
      refine gsem 6 (some 23) (.pointer (some ⟨g2, 0 + i * 1, none⟩)) rfl (by kernel_rfl) (by kernel_rfl) (by kernel_rfl) (fun _ _ _ h => h) (by kernel_rfl) (by kernel_rfl) (fun X hX => ex_indexG 53 1 i und53 idx53 rfl rfl rfl (unhide HLT)) s0 ?_
      simp only [Act.put, List.setIfInBounds_toArray, List.set_cons_succ, List.set_cons_zero]
      refine gsem 7 (some 24) (.string s) rfl (by kernel_rfl) (by kernel_rfl) (by kernel_rfl) (fun _ _ _ h => h) (by kernel_rfl) (by kernel_rfl) (fun X hX => ex_loadC 9 Tryz.isAgg9 rfl rfl hX.2) s0 ?_
      simp only [Act.put, List.setIfInBounds_toArray, List.set_cons_succ, List.set_cons_zero]
      refine gsem 8 (some 25) (.bool false) rfl (by kernel_rfl) (by kernel_rfl) (by kernel_rfl) (fun _ _ _ h => h) (by kernel_rfl) (by kernel_rfl) (fun X hX => ex_neS rfl rfl rfl) s0 ?_
      simp only [Act.put, List.setIfInBounds_toArray, List.set_cons_succ, List.set_cons_zero]
      refine wpAnyH_done (by kernel_rfl) ?_ _
      try simp only [Act.put, List.setIfInBounds_toArray, List.set_cons_succ, List.set_cons_zero]
      have HB2 := hide (below_dr (unhide HB))
      clear s0 hS0
      go_wp2
      go_roundg (ts.length - (i + 1))
      case measure => have := unhide HLT; omega
      case rel => exact ⟨i + 1, by go_num, by have := unhide HLT; omega, by omega, HB2⟩
    · have hil : i = ts.length := by omega
      subst hil
      clear hlt hi hgm
      go_wp2_with (first | go_skip | ((with_reducible show wpList _ _ _ _ _ _); first | ((refine rd (by rfl) (ex_lenG 53 9 Tryz.underlying53 rfl rfl) ?_); simp only [Act.put, List.setIfInBounds_toArray, List.set_cons_succ, List.set_cons_zero])))
      go_ret
      exact ⟨rfl, unhide HB⟩
structure At (W : World) (P ix : Nat) (R : RG) (Q : RF) (cs : List Value) : Prop where
  hold : Holds W P cs
  lt : ix < 2
  co : cs[ix]? = some (pt R.r)
  cr : cs[2 + ix]? = some (pt Q.r)
theorem At.c1 {W : World} {P ix : Nat} {R : RG} {Q : RF} {cs : List Value} (h : At W P ix R Q cs) : W.cell? ⟨P, 0 + ix * 1, none⟩ = some (pt R.r) := by
  have := h.hold.cell ix h.co
  simpa using this
theorem At.c2 {W : World} {P ix : Nat} {R : RG} {Q : RF} {cs : List Value} (h : At W P ix R Q cs) : W.cell? ⟨P, 2 + ix * 1, none⟩ = some (pt Q.r) := by
  have := h.hold.cell (2 + ix) h.cr
  simpa using this
theorem At.on {W W' : World} {P ix : Nat} {R : RG} {Q : RF} {cs : List Value} (h : At W P ix R Q cs) (hb : Below W.heap.size W W') : At W' P ix R Q cs := ⟨h.hold.block (hb.block _ (h.hold.lt (List.length_pos_of_mem (List.mem_of_getElem? h.co)))), h.lt, h.co, h.cr⟩
theorem At.fr0 {W W' : World} {P ix : Nat} {R : RG} {Q : RF} {cs : List Value} (h : At W P ix R Q cs) (hb : Fr W W' []) : At W' P ix R Q cs := h.on hb.below
theorem und27 : Tryz.prog.underlying 27 = some (.array (Tryz.prog.arrayLen 27) (Tryz.prog.elem 27)) := by kernel_rfl
theorem len27 : Tryz.prog.arrayLen 27 = 2 := by kernel_rfl
theorem idx27 (w : World) : (sizeOf (Tryz.prog.elem 27)).run Tryz.prog w = .ok 1 w := by kernel_rfl
theorem und29 : Tryz.prog.underlying 29 = some (.array (Tryz.prog.arrayLen 29) (Tryz.prog.elem 29)) := by kernel_rfl
theorem len29 : Tryz.prog.arrayLen 29 = 2 := by kernel_rfl
theorem idx29 (w : World) : (sizeOf (Tryz.prog.elem 29)).run Tryz.prog w = .ok 1 w := by kernel_rfl
theorem ins_exists (s : ByteArray) (hv : vS s = true) : ∀ us : List ByteArray, us.Pairwise ltS → s ∉ us → (∀ x ∈ us, vS x = true) → ∃ vs : List ByteArray, vs.Pairwise ltS ∧ (∀ x, x ∈ vs ↔ x = s ∨ x ∈ us) ∧ vs.length = us.length + 1
  | [], _, _, _ => ⟨[s], List.pairwise_singleton _ _, by simp, rfl⟩
  | u :: us, h, hn, hg => by
    rw [List.pairwise_cons] at h
    have hne : u ≠ s := fun e => hn (by rw [e]; exact List.mem_cons_self ..)
    by_cases hc : 0 < M.cmpL (unS u) (unS s)
    · refine ⟨s :: u :: us, ?_, by simp, rfl⟩
      rw [List.pairwise_cons, List.pairwise_cons]
      refine ⟨fun x hx => ?_, h⟩
      rcases List.mem_cons.1 hx with rfl | hx
      · exact gt_lt hc
      · exact ltS_trans (gt_lt hc) (h.1 x hx)
    · have hlt := un_lt (hg u (List.mem_cons_self ..)) hv hne hc
      obtain ⟨vs, h1, h2, h3⟩ := ins_exists s hv us h.2 (fun hm => hn (List.mem_cons_of_mem _ hm)) (fun x hx => hg x (List.mem_cons_of_mem _ hx))
      refine ⟨u :: vs, ?_, fun x => ?_, by simp [h3]⟩
      · rw [List.pairwise_cons]
        refine ⟨fun x hx => ?_, h1⟩
        rcases (h2 x).1 hx with rfl | hx
        · exact hlt
        · exact h.1 x hx
      · rw [List.mem_cons, h2, List.mem_cons]
        constructor
        · rintro (h | h | h)
          · exact .inr (.inl h)
          · exact .inl h
          · exact .inr (.inr h)
        · rintro (h | h | h)
          · exact .inr (.inl h)
          · exact .inl h
          · exact .inr (.inr h)
theorem texts_pre {l : List SY} {F : ByteArray → Option Nat} (h : RL l F) : ∀ k, k ≤ l.length → ∃ us : List ByteArray, us.Pairwise ltS ∧ us.length ≤ k ∧ ∀ x, x ∈ us ↔ OkS x ∧ ∃ j, j < k ∧ F x = some (j + 1)
  | 0, _ => ⟨[], List.Pairwise.nil, Nat.le_refl _, fun x => ⟨(fun hx => by cases hx), (fun ⟨_, j, hj, _⟩ => by omega)⟩⟩
  | k + 1, hk => by
    obtain ⟨us, h1, h2, h3⟩ := texts_pre h k (by omega)
    obtain ⟨y, hy⟩ : ∃ y, l[k]? = some y := ⟨_, List.getElem?_eq_getElem (by omega)⟩
    cases hyk : y.k
    · refine ⟨us, h1, by omega, fun x => ?_⟩
      rw [h3]
      constructor
      · rintro ⟨hx, j, hj, hF⟩
        exact ⟨hx, j, by omega, hF⟩
      · rintro ⟨hx, j, hj, hF⟩
        refine ⟨hx, j, ?_, hF⟩
        by_cases e : j = k
        · subst e
          obtain ⟨-, j', e', hj'⟩ := h.k1 x hx _ hF
          obtain rfl : j = j' := by omega
          rw [hy] at hj'
          rw [Option.some.inj hj'] at hyk
          cases hyk
        · omega
    · obtain ⟨s, rfl, hs, hF⟩ := h.k2 k y hy hyk
      have hgs := (h.k1 s hs _ hF).1
      have hns : s ∉ us := fun hm => by
        obtain ⟨-, j, hj, hFj⟩ := (h3 s).1 hm
        rw [hF] at hFj
        have := Option.some.inj hFj
        omega
      obtain ⟨vs, g1, g2, g3⟩ := ins_exists s (sV_vS hgs).1 us h1 hns (fun x hx => by
        obtain ⟨hx1, j, hj, hFj⟩ := (h3 x).1 hx
        exact (sV_vS (h.k1 x hx1 _ hFj).1).1)
      refine ⟨vs, g1, by omega, fun x => ?_⟩
      rw [g2, h3]
      constructor
      · rintro (rfl | ⟨hx, j, hj, hFj⟩)
        · exact ⟨hs, k, by omega, hF⟩
        · exact ⟨hx, j, by omega, hFj⟩
      · rintro ⟨hx, j, hj, hFj⟩
        by_cases e : j = k
        · subst e
          obtain ⟨-, j', e', hj'⟩ := h.k1 x hx _ hFj
          obtain rfl : j = j' := by omega
          rw [hy] at hj'
          have e2 := congrArg (fun y : SY => y.v.s) (Option.some.inj hj')
          exact .inl e2.symm
        · exact .inr ⟨hx, j, by omega, hFj⟩
theorem texts_exist {l : List SY} {F : ByteArray → Option Nat} (h : RL l F) (hl : l.length ≤ 65536) : ∃ us : List ByteArray, us.Pairwise ltS ∧ us.length ≤ 65536 ∧ ∀ x, x ∈ us ↔ OkS x ∧ (F x).isSome = true := by
  obtain ⟨us, h1, h2, h3⟩ := texts_pre h l.length (Nat.le_refl _)
  refine ⟨us, h1, by omega, fun x => ?_⟩
  rw [h3]
  constructor
  · rintro ⟨hx, j, -, hF⟩
    exact ⟨hx, by rw [hF]; rfl⟩
  · rintro ⟨hx, hF⟩
    obtain ⟨k, hk⟩ := Option.isSome_iff_exists.1 hF
    obtain ⟨-, j, rfl, hj⟩ := h.k1 x hx k hk
    exact ⟨hx, j, (List.getElem?_eq_some_iff.1 hj).1, hk⟩
/-- What Known says, on both sides. -/
theorem RP.known {W : World} {R : RG} {Q : RF} {n sz : Nat} {F : ByteArray → Option Nat} (h : RP W R Q n sz F) : ∃ ts : List ByteArray, ts.length ≤ 65536 ∧
    (∀ X, Fr W X [] → Tabs X → Calls Tryz.prog 19 #[pt R.r] X fun e w' => ∃ A c, e = .returned (.slice A ts.length c) ∧ w'.ownsRow X.heap.size 9 1 (.slice A ts.length c) ts.length (ts.map Value.string) ∧ Below X.heap.size X w') ∧
    (∀ X, Fr W X [] → Calls Tryz.prog 20 #[pt Q.r] X fun e w' => ∃ A c, e = .returned (.slice A ts.length c) ∧ w'.ownsRow X.heap.size 9 1 (.slice A ts.length c) ts.length (ts.map Value.string) ∧ Below X.heap.size X w') := by
  by_cases hE : ∃ us : List ByteArray, us.Pairwise ltS ∧ us.length ≤ 65536 ∧ ∀ x, x ∈ us ↔ OkS x ∧ (F x).isSome = true
  · obtain ⟨us, h1, h2, h3⟩ := hE
    refine ⟨us, h2, fun X hX hT => ?_, fun X hX => ?_⟩
    · refine (known20x R X (h.own.fr hX (by simp)) hT (fun s hs hh => by obtain ⟨k, hk⟩ := Option.isSome_iff_exists.1 hh; exact (h.rl.k1 s hs k hk).1) (Nat.le_trans h.bs h.len)).mono ?_
      rintro e w' ⟨v, ts, rfl, ho, -, hs, hm, hb⟩
      have e1 : ts = us := sorted_unique ts us hs h1 (fun x => (hm x).trans (h3 x).symm)
      subst e1
      obtain ⟨A, c, rfl⟩ := own_form ho
      exact ⟨A, c, rfl, ho, hb⟩
    · refine (refKnown20 Q X (h.ref.fr hX (by simp)) (by rw [h.eq]; have := h.len; omega) (by rw [h.eq]; exact h.rl.good) (by rw [h.eq]; exact h.rl.apart)).mono ?_
      rintro e w' ⟨v, ts, rfl, ho, hs, hm, -, hb⟩
      rw [h.eq] at hm
      have e1 : ts = us := h.rl.texts h1 h3 hs hm
      subst e1
      obtain ⟨A, c, rfl⟩ := own_form ho
      exact ⟨A, c, rfl, ho, hb⟩
  · exfalso
    exact hE (texts_exist h.rl h.len)
end Go.Proofs.YtkpfikeggleenaaGreatDoor

/-! Xj -/
namespace Go.Proofs.YtkpfikeggleenaaGreatDoor
open Go Go.Proofs Go.Maps Go.RowKit
set_option linter.unusedSimpArgs false
set_option linter.unusedVariables false
set_option maxHeartbeats 1000000
theorem ex_lenV {o : Oper} {a : Act} {w : World} {m : Operand} {v : Value} {A : Option Addr} {n c k : Nat} (t e : TypeId) (ht : Tryz.prog.underlying t = some (.slice e)) (ho : o.op = .call { callee := .builtin .len, args := #[m], argTypes := #[t] }) (hm : a.eval m = v) (hv : v = .slice A n c) (hn : n = k) : (execOp a.eval o).run Tryz.prog w = .ok (.value (.int .i64 (k : Nat))) w := by
  subst hn
  exact ex_lenG t e ht ho (hm.trans hv)
def spoilt : ByteArray := ⟨#[115, 112, 111, 105, 108, 116]⟩
/-- A row that may be written, if there is one. -/
def Holds0 (w : World) (A : Option Addr) (n : Nat) : Prop := 0 < n → ∃ g xs, A = some ⟨g, 0, none⟩ ∧ Holds w g xs ∧ xs.length = n
theorem holds0_of {w : World} {base n c : Nat} {A : Option Addr} {xs : List Value} (h : w.ownsRow base 9 1 (.slice A n c) n xs) : Holds0 w A n := by
  intro hn
  have hl := h.1
  rcases h.2 with ⟨h1, h0⟩ | ⟨g, c', cur, h1, -⟩
  · omega
  · cases h1
    exact ⟨g, xs, rfl, own_holds h, by omega⟩
set_option maxHeartbeats 2000000 in
set_option maxRecDepth 100000 in
theorem tells7 (P ix : Nat) (R : RG) (Q : RF) (cs : List Value) (w : World) {n sz : Nat} {F : ByteArray → Option Nat} (hA : At w P ix R Q cs) (hP : RP w R Q n sz F) (hT : Tabs w) : Calls Tryz.prog 7 #[pt P, .int .i64 (ix : Nat)] w fun e w' => e = .returned (.bool true) ∧ Below w.heap.size w w' := by
  obtain ⟨ts, hts, hk1, hk2⟩ := hP.known
  have HTS := hide hts
  have HK1 := hide hk1
  have HK2 := hide hk2
  have HP := hide hP
  have HA := hide hA
  have HT := hide hT
  have HF := hide (Fr.refl w [])
  obtain ⟨AQ, cQ, hQ⟩ := hP.ref.own.form
  have HQ := hide hQ
  clear hts hk1 hk2 hP hA hT hQ
  go_enter Tryz.func7, Tryz.ntmps7
  go_wp2_with (first | go_skip | ((with_reducible show wpList _ _ _ _ _ _); first | ((refine rd (by rfl) (ex_indexA 27 2 1 ix und27 len27 idx27 rfl rfl rfl (unhide HA).lt) ?_); simp only [Act.put, List.setIfInBounds_toArray, List.set_cons_succ, List.set_cons_zero]) | ((refine rd (by rfl) (ex_indexA 29 2 1 ix und29 len29 idx29 rfl rfl rfl (unhide HA).lt) ?_); simp only [Act.put, List.setIfInBounds_toArray, List.set_cons_succ, List.set_cons_zero]) | ((refine rd (by rfl) (ex_loadC 26 Tryz.isAgg26 rfl rfl ((unhide HA).fr0 (unhide HF)).c1) ?_); simp only [Act.put, List.setIfInBounds_toArray, List.set_cons_succ, List.set_cons_zero]) | ((refine rd (by rfl) (ex_loadC 28 Tryz.isAgg28 rfl rfl ((unhide HA).fr0 (unhide HF)).c2) ?_); simp only [Act.put, List.setIfInBounds_toArray, List.set_cons_succ, List.set_cons_zero])))
  refine (unhide HK1 _ (unhide HF) ((unhide HT).fr (unhide HF) (by simp))).mono ?_
  rintro e X1 ⟨A1, c1, rfl, hO, hb⟩
  have O1 := hide hO
  have HS1 : Hid (w.heap.size ≤ w.heap.size) := hide (Nat.le_refl _)
  replace HF := hide ((unhide HF).on hb)
  clear hO hb
  go_wp2_with (first | go_skip | ((with_reducible show wpList _ _ _ _ _ _); first | ((refine rd (by rfl) (ex_indexA 27 2 1 ix und27 len27 idx27 rfl rfl rfl (unhide HA).lt) ?_); simp only [Act.put, List.setIfInBounds_toArray, List.set_cons_succ, List.set_cons_zero]) | ((refine rd (by rfl) (ex_indexA 29 2 1 ix und29 len29 idx29 rfl rfl rfl (unhide HA).lt) ?_); simp only [Act.put, List.setIfInBounds_toArray, List.set_cons_succ, List.set_cons_zero]) | ((refine rd (by rfl) (ex_loadC 26 Tryz.isAgg26 rfl rfl ((unhide HA).fr0 (unhide HF)).c1) ?_); simp only [Act.put, List.setIfInBounds_toArray, List.set_cons_succ, List.set_cons_zero]) | ((refine rd (by rfl) (ex_loadC 28 Tryz.isAgg28 rfl rfl ((unhide HA).fr0 (unhide HF)).c2) ?_); simp only [Act.put, List.setIfInBounds_toArray, List.set_cons_succ, List.set_cons_zero])))
  refine (unhide HK1 _ (unhide HF) ((unhide HT).fr (unhide HF) (by simp))).mono ?_
  rintro e X2 ⟨A2, c2, rfl, hO, hb⟩
  have O2 := hide hO
  have HX12 := hide hb
  replace HF := hide ((unhide HF).on hb)
  clear hO hb
  go_wp2_with (first | go_skip | ((with_reducible show wpList _ _ _ _ _ _); first | ((refine rd (by rfl) (ex_indexA 27 2 1 ix und27 len27 idx27 rfl rfl rfl (unhide HA).lt) ?_); simp only [Act.put, List.setIfInBounds_toArray, List.set_cons_succ, List.set_cons_zero]) | ((refine rd (by rfl) (ex_indexA 29 2 1 ix und29 len29 idx29 rfl rfl rfl (unhide HA).lt) ?_); simp only [Act.put, List.setIfInBounds_toArray, List.set_cons_succ, List.set_cons_zero]) | ((refine rd (by rfl) (ex_loadC 26 Tryz.isAgg26 rfl rfl ((unhide HA).fr0 (unhide HF)).c1) ?_); simp only [Act.put, List.setIfInBounds_toArray, List.set_cons_succ, List.set_cons_zero]) | ((refine rd (by rfl) (ex_loadC 28 Tryz.isAgg28 rfl rfl ((unhide HA).fr0 (unhide HF)).c2) ?_); simp only [Act.put, List.setIfInBounds_toArray, List.set_cons_succ, List.set_cons_zero])))
  refine (unhide HK2 _ (unhide HF)).mono ?_
  rintro e X3 ⟨A3, c3, rfl, hO, hb⟩
  have O3 := hide hO
  have HX23 := hide hb
  replace HF := hide ((unhide HF).on hb)
  clear hO hb
  go_wp2
  have s0 : Fr w X3.drew [] := (unhide HF).drew
  have C14 : Calls Tryz.prog 21 #[pt R.r] X3.drew fun e w' => e = .returned (.int .i64 (R.l.length : Nat)) ∧ w' = X3.drew := count14 R X3.drew ((unhide HP).fr s0 (by simp) (by simp)).own
  have R1 : RdT X3 A1 ts := ((own_rd (unhide O1)).on (unhide HX12)).on (unhide HX23)
  have R2 : RdT X3 A2 ts := (own_rd (unhide O2)).on (unhide HX23)
  have R3 : RdT X3 A3 ts := own_rd (unhide O3)
  have R1d : RdT X3.drew A1 ts := R1.fr (E := []) (Fr.refl X3 []).drew (by simp)
  have R3d : RdT X3.drew A3 ts := R3.fr (E := []) (Fr.refl X3 []).drew (by simp)
  refine wp_region_held_drew (P := Tryz.prog) (S := fun X => Fr w X []) (by kernel_rfl) s0 (fun hS0 => ?_)
  refine gsem 0 (some 30) (.pointer (some ⟨P, 0, none⟩)) rfl (by kernel_rfl) (by kernel_rfl) (by kernel_rfl) (fun _ _ _ h => h) (by kernel_rfl) (by kernel_rfl) (fun _ _ => by kernel_rfl) s0 ?_
  simp only [Act.put, List.setIfInBounds_toArray, List.set_cons_succ, List.set_cons_zero]
  refine gsem 1 (some 31) (.int .i64 (ix : Nat)) rfl (by kernel_rfl) (by kernel_rfl) (by kernel_rfl) (fun _ _ _ h => h) (by kernel_rfl) (by kernel_rfl) (fun _ _ => by kernel_rfl) s0 ?_
  simp only [Act.put, List.setIfInBounds_toArray, List.set_cons_succ, List.set_cons_zero]
  refine gsem 2 (some 32) (.pointer (some ⟨P, 0, none⟩)) rfl (by kernel_rfl) (by kernel_rfl) (by kernel_rfl) (fun _ _ _ h => h) (by kernel_rfl) (by kernel_rfl) (fun _ _ => by kernel_rfl) s0 ?_
  simp only [Act.put, List.setIfInBounds_toArray, List.set_cons_succ, List.set_cons_zero]
  refine gsem 3 (some 33) (.pointer (some ⟨P, 0, none⟩)) rfl (by kernel_rfl) (by kernel_rfl) (by kernel_rfl) (fun _ _ _ h => h) (by kernel_rfl) (by kernel_rfl) (fun _ _ => by kernel_rfl) s0 ?_
  simp only [Act.put, List.setIfInBounds_toArray, List.set_cons_succ, List.set_cons_zero]
  refine gsem 4 (some 34) (.pointer (some ⟨P, 0 + ix * 1, none⟩)) rfl (by kernel_rfl) (by kernel_rfl) (by kernel_rfl) (fun _ _ _ h => h) (by kernel_rfl) (by kernel_rfl) (fun X hX => ex_indexA 27 2 1 ix und27 len27 idx27 rfl rfl rfl (unhide HA).lt) s0 ?_
  simp only [Act.put, List.setIfInBounds_toArray, List.set_cons_succ, List.set_cons_zero]
  refine gsem 5 (some 35) (pt R.r) rfl (by kernel_rfl) (by kernel_rfl) (by kernel_rfl) (fun _ _ _ h => h) (by kernel_rfl) (by kernel_rfl) (fun X hX => ex_loadC 26 Tryz.isAgg26 rfl rfl ((unhide HA).fr0 hX).c1) s0 ?_
  simp only [Act.put, List.setIfInBounds_toArray, List.set_cons_succ, List.set_cons_zero]
  refine gsem 7 (some 37) (.pointer (some ⟨P, 0, none⟩)) rfl (by kernel_rfl) (by kernel_rfl) (by kernel_rfl) (fun _ _ _ h => h) (by kernel_rfl) (by kernel_rfl) (fun _ _ => by kernel_rfl) s0 ?_
  simp only [Act.put, List.setIfInBounds_toArray, List.set_cons_succ, List.set_cons_zero]
  refine gsem 8 (some 38) (.int .i64 (ix : Nat)) rfl (by kernel_rfl) (by kernel_rfl) (by kernel_rfl) (fun _ _ _ h => h) (by kernel_rfl) (by kernel_rfl) (fun _ _ => by kernel_rfl) s0 ?_
  simp only [Act.put, List.setIfInBounds_toArray, List.set_cons_succ, List.set_cons_zero]
  refine gsem 9 (some 39) (.pointer (some ⟨P, 0, none⟩)) rfl (by kernel_rfl) (by kernel_rfl) (by kernel_rfl) (fun _ _ _ h => h) (by kernel_rfl) (by kernel_rfl) (fun _ _ => by kernel_rfl) s0 ?_
  simp only [Act.put, List.setIfInBounds_toArray, List.set_cons_succ, List.set_cons_zero]
  refine gsem 10 (some 40) (.pointer (some ⟨P, 2, none⟩)) rfl (by kernel_rfl) (by kernel_rfl) (by kernel_rfl) (fun _ _ _ h => h) (by kernel_rfl) (by kernel_rfl) (fun _ _ => by kernel_rfl) s0 ?_
  simp only [Act.put, List.setIfInBounds_toArray, List.set_cons_succ, List.set_cons_zero]
  refine gsem 11 (some 41) (.pointer (some ⟨P, 2 + ix * 1, none⟩)) rfl (by kernel_rfl) (by kernel_rfl) (by kernel_rfl) (fun _ _ _ h => h) (by kernel_rfl) (by kernel_rfl) (fun X hX => ex_indexA 29 2 1 ix und29 len29 idx29 rfl rfl rfl (unhide HA).lt) s0 ?_
  simp only [Act.put, List.setIfInBounds_toArray, List.set_cons_succ, List.set_cons_zero]
  refine gsem 12 (some 42) (pt Q.r) rfl (by kernel_rfl) (by kernel_rfl) (by kernel_rfl) (fun _ _ _ h => h) (by kernel_rfl) (by kernel_rfl) (fun X hX => ex_loadC 28 Tryz.isAgg28 rfl rfl ((unhide HA).fr0 hX).c2) s0 ?_
  simp only [Act.put, List.setIfInBounds_toArray, List.set_cons_succ, List.set_cons_zero]
  refine gsem 13 (some 43) (pt Q.r) rfl (by kernel_rfl) (by kernel_rfl) (by kernel_rfl) (fun _ _ _ h => h) (by kernel_rfl) (by kernel_rfl) (fun _ _ => by kernel_rfl) s0 ?_
  simp only [Act.put, List.setIfInBounds_toArray, List.set_cons_succ, List.set_cons_zero]
  refine gsem 14 (some 44) (pt Q.r) rfl (by kernel_rfl) (by kernel_rfl) (by kernel_rfl) (fun _ _ _ h => h) (by kernel_rfl) (by kernel_rfl) (fun _ _ => by kernel_rfl) s0 ?_
  simp only [Act.put, List.setIfInBounds_toArray, List.set_cons_succ, List.set_cons_zero]
  refine gsem 15 (some 45) (Q.sv) rfl (by kernel_rfl) (by kernel_rfl) (by kernel_rfl) (fun _ _ _ h => h) (by kernel_rfl) (by kernel_rfl) (fun X hX => ex_load1 39 Tryz.isAgg39 rfl rfl (((unhide HP).fr hX (by simp) (by simp)).ref.hold) rfl) s0 ?_
  simp only [Act.put, List.setIfInBounds_toArray, List.set_cons_succ, List.set_cons_zero]
  refine gsem 16 (some 46) (.int .i64 (R.l.length : Nat)) rfl (by kernel_rfl) (by kernel_rfl) (by kernel_rfl) (fun _ _ _ h => h) (by kernel_rfl) (by kernel_rfl) (fun X hX => ex_lenV 39 81 Tryz.underlying39 rfl rfl (unhide HQ) (by rw [(unhide HP).eq])) s0 ?_
  simp only [Act.put, List.setIfInBounds_toArray, List.set_cons_succ, List.set_cons_zero]
  refine wpAnyH_ready (rs := [6]) (by kernel_rfl) (by simp) (gcallR 6 (some 36) rfl (by kernel_rfl) (by kernel_rfl) (by kernel_rfl) C14 ?_ AllReadyH.nil)
  rintro e X8 ⟨rfl, h8⟩
  refine ⟨_, rfl, h8 ▸ s0, ?_⟩
  rw [h8]
  clear h8 X8
  simp only [Act.put, List.setIfInBounds_toArray, List.set_cons_succ, List.set_cons_zero]
  refine gsem 17 (some 47) (.bool false) rfl (by kernel_rfl) (by kernel_rfl) (by kernel_rfl) (fun _ _ _ h => h) (by kernel_rfl) (by kernel_rfl) (fun X hX => ex_neqI rfl rfl rfl) s0 ?_
  simp only [Act.put, List.setIfInBounds_toArray, List.set_cons_succ, List.set_cons_zero]
  refine gsem 18 (some 48) (.bool false) rfl (by kernel_rfl) (by kernel_rfl) (by kernel_rfl) (fun _ _ _ h => h) (by kernel_rfl) (by kernel_rfl) (fun _ _ => by kernel_rfl) s0 ?_
  simp only [Act.put, List.setIfInBounds_toArray, List.set_cons_succ, List.set_cons_zero]
  refine gsem 19 (some 49) (.slice A1 ts.length c1) rfl (by kernel_rfl) (by kernel_rfl) (by kernel_rfl) (fun _ _ _ h => h) (by kernel_rfl) (by kernel_rfl) (fun _ _ => by kernel_rfl) s0 ?_
  simp only [Act.put, List.setIfInBounds_toArray, List.set_cons_succ, List.set_cons_zero]
  refine gsem 20 (some 50) (.slice A3 ts.length c3) rfl (by kernel_rfl) (by kernel_rfl) (by kernel_rfl) (fun _ _ _ h => h) (by kernel_rfl) (by kernel_rfl) (fun _ _ => by kernel_rfl) s0 ?_
  simp only [Act.put, List.setIfInBounds_toArray, List.set_cons_succ, List.set_cons_zero]
  refine wpAnyH_ready (rs := [21]) (by kernel_rfl) (by simp) (gcallR 21 (some 51) rfl (by kernel_rfl) (by kernel_rfl) (by kernel_rfl) (sameT A1 A3 c1 c3 ts X3.drew R1d R3d (by have := unhide HTS; omega)) ?_ AllReadyH.nil)
  rintro e X9 ⟨rfl, hb9⟩
  have s9 : Fr w X9 [] := s0.on hb9
  refine ⟨_, rfl, s9, ?_⟩
  simp only [Act.put, List.setIfInBounds_toArray, List.set_cons_succ, List.set_cons_zero]
  refine gsem 22 (some 52) (.bool false) rfl (by kernel_rfl) (by kernel_rfl) (by kernel_rfl) (fun _ _ _ h => h) (by kernel_rfl) (by kernel_rfl) (fun _ _ => by kernel_rfl) s9 ?_
  simp only [Act.put, List.setIfInBounds_toArray, List.set_cons_succ, List.set_cons_zero]
  refine gsem 23 (some 53) (.bool false) rfl (by kernel_rfl) (by kernel_rfl) (by kernel_rfl) (fun _ _ _ h => h) (by kernel_rfl) (by kernel_rfl) (fun _ _ => by kernel_rfl) s9 ?_
  simp only [Act.put, List.setIfInBounds_toArray, List.set_cons_succ, List.set_cons_zero]
  refine wpAnyH_done (by kernel_rfl) ?_ _
  try simp only [Act.put, List.setIfInBounds_toArray, List.set_cons_succ, List.set_cons_zero]
  have hx1 := (World.ownsRow.lt (unhide O1))
  have hx2 := (World.ownsRow.lt (unhide O2))
  have hx3 := (World.ownsRow.lt (unhide O3))
  have b9 : Below X3.heap.size X3 X9 := (below_dr (Below.refl _ _)).trans hb9
  have HM : Hid (Holds0 X9 A1 ts.length ∧ RdT X9 A2 ts ∧ RdT X9 A3 ts ∧ Fr w X9 [] ∧ (∀ g, A1 = some ⟨g, 0, none⟩ → w.heap.size ≤ g ∧ (∀ q, A2 = some ⟨q, 0, none⟩ → q ≠ g) ∧ (∀ q, A3 = some ⟨q, 0, none⟩ → q ≠ g))) := hide ⟨holds0_of (own_blk (own_blk (own_blk (unhide O1) (fun q hq => (unhide HX12).block q (hx1 q hq).2)) (fun q hq => (unhide HX23).block q (Nat.lt_of_lt_of_le (hx1 q hq).2 (unhide HX12).size))) (fun q hq => b9.block q (Nat.lt_of_lt_of_le (Nat.lt_of_lt_of_le (hx1 q hq).2 (unhide HX12).size) (unhide HX23).size))), R2.on b9, R3.on b9, s9, fun g hg => by
      subst hg
      have h1 := hx1 g rfl
      refine ⟨h1.1, fun q hq => ?_, fun q hq => ?_⟩
      · subst hq
        have h2 := hx2 q rfl
        omega
      · subst hq
        have h3 := hx3 q rfl
        have := (unhide HX12).size
        omega⟩
  clear s9 s0 hS0 C14 hb9 R1 R2 R3 R1d R3d hx1 hx2 hx3 b9 HF O1 O2 O3 HX12 HX23
  go_wp2_with fail
  go_loopg [8] ts.length (fun gm s8 wr => ∃ k : Nat, s8 = .int .i64 k ∧ k ≤ ts.length ∧ ts.length - k ≤ gm ∧ Hid (Holds0 wr A1 ts.length ∧ RdT wr A2 ts ∧ RdT wr A3 ts ∧ Fr w wr []))
  case atStart => exact ⟨0, rfl, by omega, by omega, hide ⟨(unhide HM).1, (unhide HM).2.1, (unhide HM).2.2.1, (unhide HM).2.2.2.1⟩⟩
  case round =>
    obtain ⟨k, rfl, hk, hgm, HI⟩ := hrel
    by_cases hlt : k < ts.length
    · have hlz : decide ((k : Int) < (ts.length : Int)) = true := decide_eq_true (by omega)
      have hw1 : IntKind.i64.wrap ((k : Int) + 1) = (k : Int) + 1 := by have := unhide HTS; rw [IntKind.wrap_i64]; omega
      obtain ⟨g, xs, hA1, hH, hxl⟩ := (unhide HI).1 (by omega)
      subst hA1
      have HH := hide (And.intro hH hxl)
      have HLT := hide hlt
      clear hH hxl hlt
      go_wp2_with (first | go_skip | ((with_reducible show wpList _ _ _ _ _ _); first | ((refine rd (by rfl) (ex_lenG 53 9 Tryz.underlying53 rfl rfl) ?_); simp only [Act.put, List.setIfInBounds_toArray, List.set_cons_succ, List.set_cons_zero]) | ((refine rd (by rfl) (ex_indexG 53 1 k und53 idx53 rfl rfl rfl (unhide HLT)) ?_); simp only [Act.put, List.setIfInBounds_toArray, List.set_cons_succ, List.set_cons_zero]) | ((with_reducible apply stx (t := 9) (b := g) (p := 0 + k * 1) (cs := xs) (vs := [.string spoilt]) (v := .string spoilt)); (case hw => rfl); (case ho => rfl); (case hx => rfl); (case hy => rfl); (case hv => rfl); (case h1 => simp [Value.oneCell']); (case hi => exact siz9); (case hH => exact (unhide HH).1); (case hp => (have h1 := (unhide HH).2; have h2 := unhide HLT; simp; omega)); simp only [Act.put, List.setIfInBounds_toArray, List.set_cons_succ, List.set_cons_zero])))
      have f1 := Fr.setCells wr g k [.string spoilt]
      have hg := (unhide HM).2.2.2.2 g rfl
      have FIN : Hid (Holds0 (wr.setCells g k [.string spoilt]) (some ⟨g, 0, none⟩) ts.length ∧ RdT (wr.setCells g k [.string spoilt]) A2 ts ∧ RdT (wr.setCells g k [.string spoilt]) A3 ts ∧ Fr w (wr.setCells g k [.string spoilt]) []) := hide ⟨fun _ => ⟨g, _, rfl, (unhide HH).1.put k [.string spoilt] (by have h1 := (unhide HH).2; have h2 := unhide HLT; simp; omega), by have h1 := (unhide HH).2; have h2 := unhide HLT; simp [cput]; omega⟩, (unhide HI).2.1.fr f1 (fun q hq he => hg.2.1 q hq (by simpa using he)), (unhide HI).2.2.1.fr f1 (fun q hq he => hg.2.2 q hq (by simpa using he)), (unhide HI).2.2.2.trans f1 (fun b hb => .inr (by obtain rfl : b = g := (by simpa using hb); exact hg.1))⟩
      generalize wr.setCells g k [.string spoilt] = X5 at *
      clear f1 hg
      go_wp2
      go_roundg (ts.length - (k + 1))
      case measure => have := unhide HLT; omega
      case rel => exact ⟨k + 1, by go_num, by have := unhide HLT; omega, by omega, FIN⟩
    · have hil : k = ts.length := by omega
      subst hil
      have HF := hide (unhide HI).2.2.2
      clear hlt hk hgm
      go_wp2_with (first | go_skip | ((with_reducible show wpList _ _ _ _ _ _); first | ((refine rd (by rfl) (ex_lenG 53 9 Tryz.underlying53 rfl rfl) ?_); simp only [Act.put, List.setIfInBounds_toArray, List.set_cons_succ, List.set_cons_zero])))
      refine (sameT A2 A3 c2 c3 ts wr (unhide HI).2.1 (unhide HI).2.2.1 (by have := unhide HTS; omega)).mono ?_
      rintro e X6 ⟨rfl, hb⟩
      have HR3 := hide ((unhide HI).2.2.1.on hb)
      replace HF := hide ((unhide HF).on hb)
      clear hb
      go_wp2_with (first | go_skip | ((with_reducible show wpList _ _ _ _ _ _); first | ((refine rd (by rfl) (ex_indexA 27 2 1 ix und27 len27 idx27 rfl rfl rfl (unhide HA).lt) ?_); simp only [Act.put, List.setIfInBounds_toArray, List.set_cons_succ, List.set_cons_zero]) | ((refine rd (by rfl) (ex_indexA 29 2 1 ix und29 len29 idx29 rfl rfl rfl (unhide HA).lt) ?_); simp only [Act.put, List.setIfInBounds_toArray, List.set_cons_succ, List.set_cons_zero]) | ((refine rd (by rfl) (ex_loadC 26 Tryz.isAgg26 rfl rfl ((unhide HA).fr0 (unhide HF)).c1) ?_); simp only [Act.put, List.setIfInBounds_toArray, List.set_cons_succ, List.set_cons_zero]) | ((refine rd (by rfl) (ex_loadC 28 Tryz.isAgg28 rfl rfl ((unhide HA).fr0 (unhide HF)).c2) ?_); simp only [Act.put, List.setIfInBounds_toArray, List.set_cons_succ, List.set_cons_zero])))
      refine (unhide HK1 _ (unhide HF) ((unhide HT).fr (unhide HF) (by simp))).mono ?_
      rintro e X7 ⟨A4, c4, rfl, hO, hb⟩
      have O4 := hide hO
      have HR37 := hide ((unhide HR3).on hb)
      replace HF := hide ((unhide HF).on hb)
      clear hO hb
      go_wp2_with fail
      refine (sameT A4 A3 c4 c3 ts X7 (own_rd (unhide O4)) (unhide HR37) (by have := unhide HTS; omega)).mono ?_
      rintro e X10 ⟨rfl, hb⟩
      replace HF := hide ((unhide HF).on hb)
      clear hb
      go_wp2
      go_ret
      exact ⟨rfl, (unhide HF).below⟩
end Go.Proofs.YtkpfikeggleenaaGreatDoor
