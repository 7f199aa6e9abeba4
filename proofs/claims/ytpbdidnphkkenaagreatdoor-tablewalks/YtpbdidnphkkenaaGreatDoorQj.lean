import Derived.Test.YtpbdidnphkkenaaGreatDoorQh
import Derived.Test.YtpbdidnphkkenaaGreatDoorQi
import Derived.Carry
import Derived.Laws.StructEq
set_option linter.all false
namespace Go.Proofs.YtpbdidnphkkenaaGreatDoor
section
open Go Go.Proofs Go.Maps Go.RowKit
/-! A table of the program. -/
instance decK : DecidableEq KK := fun a b => decidable_of_iff (a.s = b.s ∧ a.n = b.n) ⟨fun h => KK.ext' h.1 h.2, fun h => h ▸ ⟨rfl, rfl⟩⟩
/-- A row: its block, and what it holds. -/
structure RR where
  b : Nat
  k : KK
  d : DD
  n : Nat
  gone : Bool
def RR.cs (r : RR) : List Value := r.k.cs ++ (r.d.cs ++ [.int .u64 r.n, .bool r.gone])
theorem dcs_length (d : DD) : d.cs.length = 18 := rfl
theorem rcs_length (r : RR) : r.cs.length = 22 := rfl
def ptrs (l : List Nat) : List Value := l.map (fun b => .pointer (some ⟨b, 0, none⟩))
/-- A list of pointers that is ours. -/
def OwnP (W : World) (v : Value) (l : List Nat) : Prop := W.ownsRow 0 74 1 v l.length (ptrs l)
theorem OwnP.nil (W : World) : OwnP W (.slice none 0 0) [] := ⟨rfl, .inl ⟨rfl, rfl⟩⟩
theorem OwnP.lt {W : World} {v : Value} {l : List Nat} (h : OwnP W v l) : ∀ g, v.ownBlock = some g → g < W.heap.size := fun g hg => (World.ownsRow.lt h g hg).2
theorem OwnP.block {W W' : World} {v : Value} {l : List Nat} (h : OwnP W v l) (he : ∀ g, v.ownBlock = some g → W'.heap[g]? = W.heap[g]?) : OwnP W' v l := by
  obtain ⟨h1, h2⟩ := h
  refine ⟨h1, ?_⟩
  rcases h2 with h2 | ⟨g, cap, cur, rfl, h3, h4, h5⟩
  · exact .inl h2
  · exact .inr ⟨g, cap, cur, rfl, h3, (he g rfl).trans h4, h5⟩
structure TT where
  t : Nat
  m : Nat
  rv : Value
  rows : List RR
  last : Nat
def TT.live (T : TT) : List RR := T.rows.filter (fun r => !r.gone)
def TT.find (T : TT) (k : KK) : Option RR := T.live.find? (fun r => decide (r.k = k))
def TT.blocks (T : TT) : List Nat := T.t :: T.m :: (T.rv.ownBlock.toList ++ T.rows.map (·.b))
def TT.cs (T : TT) : List Value := [.map (some T.m), T.rv, .int .u64 T.last]
structure TT.Is (T : TT) (W : World) : Prop where
  tab : Holds W T.t T.cs
  map : MapIs W T.m T.last T.live.length (fun k => (T.find k).map (·.b))
  own : OwnP W T.rv (T.rows.map (·.b))
  rows : ∀ r ∈ T.rows, Holds W r.b r.cs
  nd : T.blocks.Nodup
  rise : T.rows.Pairwise (fun a b => a.n < b.n)
  num : ∀ r ∈ T.rows, 1 ≤ r.n ∧ r.n ≤ T.last
  keys : T.live.Pairwise (fun a b => a.k ≠ b.k)
  good : ∀ r ∈ T.live, goodK r.k = true
theorem TT.Is.lt {T : TT} {W : World} (h : T.Is W) : ∀ b ∈ T.blocks, b < W.heap.size := by
  intro b hb
  simp only [TT.blocks, List.mem_cons, List.mem_append, List.mem_map] at hb
  rcases hb with rfl | rfl | hb | ⟨r, hr, rfl⟩
  · exact h.tab.lt (by simp [TT.cs])
  · exact h.map.lt
  · exact h.own.lt b (by simpa using hb)
  · exact (h.rows r hr).lt (by simp [rcs_length])
theorem TT.Is.block {T : TT} {W W' : World} (h : T.Is W) (he : ∀ b ∈ T.blocks, W'.heap[b]? = W.heap[b]?) : T.Is W' :=
  ⟨h.tab.block (he _ (by simp [TT.blocks])), h.map.block (he _ (by simp [TT.blocks])), h.own.block (fun g hg => he g (by simp [TT.blocks, hg])), fun r hr => (h.rows r hr).block (he _ (by
    simp only [TT.blocks, List.mem_cons, List.mem_append, List.mem_map]
    exact .inr (.inr (.inr ⟨r, hr, rfl⟩)))), h.nd, h.rise, h.num, h.keys, h.good⟩
theorem TT.Is.on {T : TT} {W W' : World} (h : T.Is W) (hb : Below W.heap.size W W') : T.Is W' := h.block (fun b hb' => hb.block b (h.lt b hb'))
theorem TT.Is.fr {T : TT} {W W' : World} {E : List Nat} (h : T.Is W) (hb : Fr W W' E) (hE : ∀ b ∈ T.blocks, b ∉ E) : T.Is W' := h.block (fun b hb' => hb.block b (h.lt b hb') (hE b hb'))
theorem TT.Is.drew {T : TT} {W : World} (h : T.Is W) : T.Is W.drew := h.block (fun _ _ => rfl)
theorem TT.find_mem {T : TT} {k : KK} {r : RR} (h : T.find k = some r) : r ∈ T.rows ∧ r.gone = false ∧ r.k = k := by
  have h1 := List.mem_of_find?_eq_some h
  have h2 := List.find?_some h
  simp [TT.live] at h1 h2
  exact ⟨h1.1, h1.2, h2⟩
/-! Operations, by what they yield. -/
section
variable {md : Region.Mode} {ops : Array Oper} {rest : List Oper} {Q : Exit → Act → World → Prop} {S : World → Prop} {w w0 : World} {fuel : Nat} {listed : Array Bool} {a : Act} {o : Oper}
theorem gsem (i : Nat) (dst : Option Tmp) (v : Value) (hi : ops[i]? = some o) (hs : Region.noSelect ops = true) (hf : Region.free md ops listed i = true) (hr : (Region.ready md ops listed).contains i = true)
    (hQ : ∀ c a w, Q (.panic c) (a.put dst v) w → Q (.panic c) a w) (hd : o.dst = dst) (hw : Region.wanted o (yielded ops a.tmps) = true) (hy : ∀ X, S X → (execOp a.eval o).run Tryz.prog X = .ok (.value v) X)
    (hS : S w) (h : wpAnyH Tryz.prog md ops Q S fuel (listed.setIfInBounds i true) (a.put dst v) w) : wpAnyH Tryz.prog md ops Q S (fuel + 1) listed a w := by
  subst hd
  exact wpAnyH_take hi hs hf hr hQ (Or.inl ⟨hw, hy⟩) hS h
theorem rd {v : Value} (hw : Region.wanted o (yielded ops a.tmps) = true) (hy : (execOp a.eval o).run Tryz.prog w = .ok (.value v) w) (h : wpList Tryz.prog ops Q rest (a.put o.dst v) w) : wpList Tryz.prog ops Q (o :: rest) a w := by
  refine BigFrame.wpList_want hw fun K hK => ?_
  have hP := hK _ _ h
  unfold Oper.wp
  rw [hy]
  exact hP
theorem run_storeVar_any (w : World) (b p : Nat) (ty : TypeId) (v : Value) (vs : List Value) (hv : v.cells.toList = vs) (ht : w.there b p vs.length) (hi : (Tryz.prog.info? ty).map (·.size) = some vs.length) (h1 : ∀ u ∈ vs, u.oneCell' = true) :
    (storeVar ty ⟨b, p, none⟩ v).run Tryz.prog w = .ok () (w.setCells b p vs) := by
  have := run_storeCells_cells (P := Tryz.prog) b p vs 0 w (fun j hj => by simpa using (ht j hj).1) (fun j hj => by simpa using (ht j hj).2) h1
  cases hq : Tryz.prog.info? ty with
  | none => simp [hq] at hi
  | some i =>
    have hs : v.cells.size = i.size := by
      have e : v.cells.size = vs.length := by rw [← hv]; simp
      simp [hq] at hi; omega
    simp only [Nat.add_zero] at this
    simp [storeVar, sizeOf, typeInfo, hq, hs, hv, this]
theorem st {E : List Nat} {L : List (Nat × List Value)} {b p : Nat} {cs vs : List Value} {v : Value} {x y : Operand} (i : Nat) (t : TypeId) (hw : Region.wanted o (yielded ops a.tmps) = true) (ho : o.op = .store t x y) (hx : a.eval x = .pointer (some ⟨b, p, none⟩)) (hy : a.eval y = v)
    (hv : v.cells.toList = vs) (h1 : ∀ u ∈ vs, u.oneCell' = true) (hi : (Tryz.prog.info? t).map (·.size) = some vs.length) (hL : Hq w0 w E L) (hg : L[i]? = some (b, cs)) (hp : p + vs.length ≤ cs.length) (hE : b ∈ E ∨ w0.heap.size ≤ b)
    (h : ∀ X, Hq w0 X E (L.set i (b, cput cs p vs)) → Fr w X [b] → X.heap.size = w.heap.size → wpList Tryz.prog ops Q rest (a.put o.dst undef) X) : wpList Tryz.prog ops Q (o :: rest) a w := by
  refine BigFrame.wpList_want hw fun K hK => ?_
  have hP := hK _ _ (h _ (hL.put i hg p vs hp hE) (Fr.setCells w b p vs) (size_setCells _ _ _))
  unfold Oper.wp execOp
  simp only [ho, hx, hy, Instr.storeAt, Instr.sureAddr, Sem.run_bind, Sem.run_pure, Result.andThen_ok, run_storeVar_any w b p t v vs hv ((hL.get i hg).there p vs.length hp) hi h1]
  exact hP
theorem bx {E : List Nat} {L : List (Nat × List Value)} {v : Value} {x : Operand} (t : TypeId) (cs : List Value) (hw : Region.wanted o (yielded ops a.tmps) = true) (ho : o.op = .box t x) (hx : a.eval x = v) (hv : v.cells.toList = cs) (hc : 0 < cs.length) (hL : Hq w0 w E L)
    (h : ∀ X B, B = w.heap.size → Hq w0 X E (L ++ [(B, cs)]) → Below w.heap.size w X → wpList Tryz.prog ops Q rest (a.put o.dst (.pointer (some ⟨B, 0, none⟩))) X) : wpList Tryz.prog ops Q (o :: rest) a w := by
  refine BigFrame.wpList_want hw fun K hK => ?_
  have e : v.cells = cs.toArray := by rw [← hv]
  have hP := hK _ _ (h _ _ rfl (hL.new cs t hc) ((Below.refl _ _).alloc (Nat.le_refl _) _))
  have e2 : (Instr.box t v).run Tryz.prog w = .ok (.pointer (some ⟨w.heap.size, 0, none⟩)) (w.alloc (Obj.cells cs.toArray t)) := by rw [← e]; rfl
  unfold Oper.wp execOp
  simp only [ho, hx]
  simp [e2]
  exact hP
end
/-- The blocks of a table that are no rows'. -/
def TT.hot (T : TT) : List Nat := T.t :: T.m :: T.rv.ownBlock.toList
theorem cell_blk {w w' : World} {b o : Nat} (h : w'.heap[b]? = w.heap[b]?) : w'.cell? ⟨b, o, none⟩ = w.cell? ⟨b, o, none⟩ := by
  unfold World.cell?
  rw [h]
/-- A row's number is left alone. -/
structure TT.Nu (T T' : TT) (w w' : World) : Prop where
  hot : ∀ b ∈ T'.hot, b ∈ T.hot ∨ w.heap.size ≤ b
  keep : ∀ b, b < w.heap.size → b ∉ T.hot → w'.cell? ⟨b, 20, none⟩ = w.cell? ⟨b, 20, none⟩
theorem TT.Nu.of_fr {T T' : TT} {w w' : World} {E : List Nat} (hf : Fr w w' E) (hE : ∀ b ∈ E, b = T.t ∨ w.heap.size ≤ b) (hh : ∀ b ∈ T'.hot, b ∈ T.hot ∨ w.heap.size ≤ b) : T.Nu T' w w' :=
  ⟨hh, fun b hb hn => cell_blk (hf.block b hb (fun he => by
    rcases hE b he with e | e
    · exact hn (by rw [e]; simp [TT.hot])
    · omega))⟩
theorem TT.Nu.trans {T T' T'' : TT} {w w' w'' : World} (h : T.Nu T' w w') (k : T'.Nu T'' w' w'') (hs : w.heap.size ≤ w'.heap.size) : T.Nu T'' w w'' :=
  ⟨fun b hb => by
    rcases k.hot b hb with h1 | h1
    · exact h.hot b h1
    · exact .inr (Nat.le_trans hs h1), fun b hb hn => (k.keep b (Nat.lt_of_lt_of_le hb hs) (fun hm => by
      rcases h.hot b hm with h1 | h1
      · exact hn h1
      · omega)).trans (h.keep b hb hn)⟩
theorem TT.Nu.below (T : TT) {w w' : World} (h : Below w.heap.size w w') : T.Nu T w w' := .of_fr (Fr.of_below h []) (by simp) (fun b hb => .inl hb)
theorem num_cell {W : World} {q : RR} (h : Holds W q.b q.cs) : W.cell? ⟨q.b, 20, none⟩ = some (.int .u64 (q.n : Nat)) := h.cell 20 rfl
theorem TT.hot_sub {T : TT} {b : Nat} (h : b ∈ T.hot) : b ∈ T.blocks := by
  simp only [TT.hot, TT.blocks, List.mem_cons, List.mem_append] at h ⊢
  rcases h with h | h | h
  · exact .inl h
  · exact .inr (.inl h)
  · exact .inr (.inr (.inl h))
end
end Go.Proofs.YtpbdidnphkkenaaGreatDoor
namespace Go.Proofs.YtpbdidnphkkenaaGreatDoor
set_option maxHeartbeats 1000000
section
open Go Go.Proofs Go.Maps Go.RowKit
/-! The table's small functions. -/
theorem new10 (w : World) : Calls Tryz.prog 10 #[] w fun e w' => ∃ T : TT, e = .returned (.pointer (some ⟨T.t, 0, none⟩)) ∧ T.Is w' ∧ T.rows = [] ∧ T.last = 0 ∧ (∀ b ∈ T.blocks, w.heap.size ≤ b) ∧ Below w.heap.size w w' := by
  have hmm := @run_makeMap Tryz.prog
  go_enter Tryz.func10, Tryz.ntmps10
  go_wp2
  go_ret
  have hN := Holds.new (w.alloc (Obj.map #[] 0)) [.map (some w.heap.size), .slice none 0 0, .int .u64 0] 73
  have hM := MapIs.made w
  have hz : (w.alloc (Obj.map #[] 0)).heap.size = w.heap.size + 1 := by simp
  rw [hz] at hN
  have hb : Below w.heap.size w ((w.alloc (Obj.map #[] 0)).alloc (Obj.cells #[Value.map (some w.heap.size), Value.slice none 0 0, Value.int IntKind.u64 0] 73)) := ((Below.refl _ _).alloc (Nat.le_refl _) _).alloc (by simp) _
  refine ⟨⟨w.heap.size + 1, w.heap.size, .slice none 0 0, [], 0⟩, rfl, ⟨hN, ?_, OwnP.nil _, (fun r hr => by cases hr), by simp [TT.blocks, Value.ownBlock], by simp, (fun r hr => by cases hr), by simp [TT.live], (fun r hr => by simp [TT.live] at hr)⟩, rfl, rfl, ?_, hb⟩
  · refine MapIs.block (w := w.alloc (Obj.map #[] 0)) ?_ (Below.heap_alloc _ _ _ (by simp))
    exact hM
  · intro b hb
    simp [TT.blocks, Value.ownBlock] at hb
    rcases hb with rfl | rfl <;> simp
theorem ex_len {o : Oper} {a : Act} {w : World} {m : Operand} {b n sz : Nat} {F : KK → Option Nat} (ho : o.op = .call { callee := .builtin .len, args := #[m], argTypes := #[69] }) (hm : a.eval m = .map (some b)) (h : MapIs w b n sz F) : (execOp a.eval o).run Tryz.prog w = .ok (.value (.int .i64 sz)) w := by
  simp [execOp, ho, resolve, invoke, builtin, hm, h.len o.type, Result.andThen]
theorem len30 (T : TT) (w : World) (hT : T.Is w) : Calls Tryz.prog 30 #[.pointer (some ⟨T.t, 0, none⟩)] w fun e w' => e = .returned (.int .i64 T.live.length) ∧ w' = w := by
  have HT := hide hT
  clear hT
  go_enter Tryz.func30, Tryz.ntmps30
  go_wp2_with (first | go_skip | (refine rd (by rfl) (ex_load1 69 Tryz.isAgg69 rfl rfl (unhide HT).tab rfl) ?_; simp only [Act.put, nzA, nzB, nzC]) | (refine rd (by rfl) (ex_len rfl rfl (unhide HT).map) ?_; simp only [Act.put, nzA, nzB, nzC]))
  go_ret
  exact ⟨rfl, rfl⟩
theorem TT.live_le (T : TT) : T.live.length ≤ T.rows.length := List.length_filter_le _ _
theorem ex_lenS {o : Oper} {a : Act} {w : World} {m : Operand} {v : Value} {l : List RR} (ho : o.op = .call { callee := .builtin .len, args := #[m], argTypes := #[70] }) (hm : a.eval m = v) (h : OwnP w v (l.map (·.b))) : (execOp a.eval o).run Tryz.prog w = .ok (.value (.int .i64 (l.length : Nat))) w := by
  have hv : ∃ A c, v = .slice A l.length c := by
    rcases h.2 with ⟨h1, h2⟩ | ⟨g, cap, cur, h1, h2⟩
    · exact ⟨none, 0, by rw [h1]; simp at h2; simp [h2]⟩
    · exact ⟨_, _, by rw [h1]; simp; exact ⟨rfl, rfl⟩⟩
  obtain ⟨A, c, rfl⟩ := hv
  simp [execOp, ho, resolve, invoke, builtin, hm, Builtin.len_, Result.andThen, goInt, Tryz.underlying70, run_underlying Tryz.underlying70]
theorem ex_sub {o : Oper} {a : Act} {w : World} {x y : Operand} {m n : Nat} (ho : o.op = .binOp .sub 3 x y 3) (hx : a.eval x = .int .i64 (m : Nat)) (hy : a.eval y = .int .i64 (n : Nat)) (h : n ≤ m) (hm : m ≤ 4000000) : (execOp a.eval o).run Tryz.prog w = .ok (.value (.int .i64 ((m - n : Nat) : Int))) w := by
  have e : ((m - n : Nat) : Int) = (m : Int) - (n : Int) := by omega
  rw [e]
  unfold execOp
  simp only [ho, hx, hy]
  have hs := subI (m : Int) (n : Int) (by omega) (by omega) w
  simp [go_sem, eqGuard, hs, Result.andThen]
  rw [IntKind.wrap_i64]
  omega
theorem gaps38 (T : TT) (w : World) (hT : T.Is w) (hl : T.rows.length ≤ 4000000) : Calls Tryz.prog 38 #[.pointer (some ⟨T.t, 0, none⟩)] w fun e w' => e = .returned (.int .i64 ((T.rows.length - T.live.length : Nat) : Int)) ∧ Below w.heap.size w w' := by
  have HT := hide hT
  clear hT
  go_enter Tryz.func38, Tryz.ntmps38
  go_wp2
  refine wp_region_held_drew (P := Tryz.prog) (S := fun X => T.Is X) (by kernel_rfl) (unhide HT).drew (fun hS0 => ?_)
  refine gsem 0 (some 3) (.pointer (some ⟨T.t, 0, none⟩)) rfl (by kernel_rfl) (by kernel_rfl) (by kernel_rfl) (fun _ _ _ h => h) (by kernel_rfl) (by kernel_rfl) (fun _ _ => by kernel_rfl) hS0 ?_
  simp only [Act.put, nzA, nzB, nzC]
  refine gsem 1 (some 4) (.pointer (some ⟨T.t, 0, none⟩)) rfl (by kernel_rfl) (by kernel_rfl) (by kernel_rfl) (fun _ _ _ h => h) (by kernel_rfl) (by kernel_rfl) (fun _ _ => by kernel_rfl) hS0 ?_
  simp only [Act.put, nzA, nzB, nzC]
  refine gsem 2 (some 5) (.pointer (some ⟨T.t, 1, none⟩)) rfl (by kernel_rfl) (by kernel_rfl) (by kernel_rfl) (fun _ _ _ h => h) (by kernel_rfl) (by kernel_rfl) (fun _ _ => by kernel_rfl) hS0 ?_
  simp only [Act.put, nzA, nzB, nzC]
  refine gsem 3 (some 6) (T.rv) rfl (by kernel_rfl) (by kernel_rfl) (by kernel_rfl) (fun _ _ _ h => h) (by kernel_rfl) (by kernel_rfl) (fun X hX => ex_load1 70 Tryz.isAgg70 rfl rfl (hX.tab) rfl) hS0 ?_
  simp only [Act.put, nzA, nzB, nzC]
  refine gsem 4 (some 7) (.int .i64 (T.rows.length : Nat)) rfl (by kernel_rfl) (by kernel_rfl) (by kernel_rfl) (fun _ _ _ h => h) (by kernel_rfl) (by kernel_rfl) (fun X hX => ex_lenS rfl rfl hX.own) hS0 ?_
  simp only [Act.put, nzA, nzB, nzC]
  refine gsem 5 (some 8) (.pointer (some ⟨T.t, 0, none⟩)) rfl (by kernel_rfl) (by kernel_rfl) (by kernel_rfl) (fun _ _ _ h => h) (by kernel_rfl) (by kernel_rfl) (fun _ _ => by kernel_rfl) hS0 ?_
  simp only [Act.put, nzA, nzB, nzC]
  refine gsem 6 (some 9) (.pointer (some ⟨T.t, 0, none⟩)) rfl (by kernel_rfl) (by kernel_rfl) (by kernel_rfl) (fun _ _ _ h => h) (by kernel_rfl) (by kernel_rfl) (fun _ _ => by kernel_rfl) hS0 ?_
  simp only [Act.put, nzA, nzB, nzC]
  refine gsem 7 (some 10) (.pointer (some ⟨T.t, 0, none⟩)) rfl (by kernel_rfl) (by kernel_rfl) (by kernel_rfl) (fun _ _ _ h => h) (by kernel_rfl) (by kernel_rfl) (fun _ _ => by kernel_rfl) hS0 ?_
  simp only [Act.put, nzA, nzB, nzC]
  refine gsem 8 (some 11) (.map (some T.m)) rfl (by kernel_rfl) (by kernel_rfl) (by kernel_rfl) (fun _ _ _ h => h) (by kernel_rfl) (by kernel_rfl) (fun X hX => ex_load1 69 Tryz.isAgg69 rfl rfl (hX.tab) rfl) hS0 ?_
  simp only [Act.put, nzA, nzB, nzC]
  refine gsem 9 (some 12) (.int .i64 (T.live.length : Nat)) rfl (by kernel_rfl) (by kernel_rfl) (by kernel_rfl) (fun _ _ _ h => h) (by kernel_rfl) (by kernel_rfl) (fun X hX => ex_len rfl rfl hX.map) hS0 ?_
  simp only [Act.put, nzA, nzB, nzC]
  refine gsem 10 (some 13) (.int .i64 ((T.rows.length - T.live.length : Nat) : Int)) rfl (by kernel_rfl) (by kernel_rfl) (by kernel_rfl) (fun _ _ _ h => h) (by kernel_rfl) (by kernel_rfl) (fun X hX => ex_sub rfl rfl rfl (by have := T.live_le; omega) hl) hS0 ?_
  simp only [Act.put, nzA, nzB, nzC]
  refine gsem 11 (some 2) (.int .i64 ((T.rows.length - T.live.length : Nat) : Int)) rfl (by kernel_rfl) (by kernel_rfl) (by kernel_rfl) (fun _ _ _ h => h) (by kernel_rfl) (by kernel_rfl) (fun _ _ => by kernel_rfl) hS0 ?_
  simp only [Act.put, nzA, nzB, nzC]
  refine wpAnyH_done (by kernel_rfl) ?_ _
  try simp only [Act.put, nzA, nzB, nzC]
  go_wp2
  go_ret
  exact ⟨rfl, (Below.refl _ _).drew⟩
end
end Go.Proofs.YtpbdidnphkkenaaGreatDoor
namespace Go.Proofs.YtpbdidnphkkenaaGreatDoor
set_option maxHeartbeats 2000000
section
open Go Go.Proofs Go.Maps Go.RowKit
theorem two_below (w : World) (a b : Array Value) (s t : TypeId) : Below w.heap.size w ((w.alloc (Obj.cells a s)).alloc (Obj.cells b t)) := ((Below.refl _ _).alloc (Nat.le_refl _) _).alloc (by simp) _
theorem Hq.two (w : World) (E : List Nat) (a b : List Value) (s t : TypeId) (ha : 0 < a.length) (hb : 0 < b.length) : Hq w ((w.alloc (Obj.cells a.toArray s)).alloc (Obj.cells b.toArray t)) E [(w.heap.size, a), (w.heap.size + 1, b)] := by
  have h := ((Hq.nil w E).new a s ha).new b t hb
  rw [show (w.alloc (Obj.cells a.toArray s)).heap.size = w.heap.size + 1 by simp] at h
  exact h
def getD (T : TT) (k : KK) : DD := ((T.find k).map (·.d)).getD zeroD
theorem row33x : ∃ d, Tryz.prog.underlying 33 = some d ∧ d.isRow = true := ⟨_, Tryz.underlying33, rfl⟩
theorem row39 : ∃ d, Tryz.prog.underlying 39 = some d ∧ d.isRow = true := ⟨_, Tryz.underlying39, rfl⟩
theorem row58 : ∃ d, Tryz.prog.underlying 58 = some d ∧ d.isRow = true := ⟨_, Tryz.underlying58, rfl⟩
theorem siz33 : (Tryz.prog.info? 33).map (·.size) = some 2 := by kernel_rfl
theorem siz39 : (Tryz.prog.info? 39).map (·.size) = some 18 := by kernel_rfl
theorem siz58 : (Tryz.prog.info? 58).map (·.size) = some 20 := by kernel_rfl
theorem ex_look {o : Oper} {a : Act} {w : World} {m x : Operand} {b n sz : Nat} {F : KK → Option Nat} {k : KK} {r : Option Nat} (ho : o.op = .lookup 69 m x true) (hm : a.eval m = .map (some b)) (hx : a.eval x = k.agg) (h : MapIs w b n sz F) (hk : OkK k) (hr : F k = r) : (execOp a.eval o).run Tryz.prog w = .ok (.value (.tuple #[pv r, .bool r.isSome])) w := by
  subst hr
  simp [execOp, ho, hm, hx, h.look hk, Result.andThen]
theorem ret_ct {fn : Func} {R : Ending → World → Prop} {a : Act} {w : World} {b r q : Nat} {d : DD} {v : Value} {cs : List Value} (hr : fn.results = #[.cell r 39, .tmp q]) (hdf : a.defers = [])
    (hx : a.tmps.getD r undef = .pointer (some ⟨b, 0, none⟩)) (hq : a.tmps.getD q undef = v) (hc : Holds w b cs) (hcs : (cs.drop 0).take 18 = d.cs) (h : R (.returned (.tuple #[d.agg, v])) w) : bodyPost Tryz.prog fn R .ret a w := by
  obtain ⟨t, hu, hd⟩ := row39
  have h0 := hc.mid 0 18
  rw [hcs] at h0
  have hl := run_loadVar_mid (P := Tryz.prog) w b 0 39 _ t h0 hu hd siz39
  refine ⟨hdf, _, ?_, h⟩
  simp only [Array.getD_eq_getD_getElem?] at hx hq
  unfold results
  simp [hr, hx, hq, hl, asAddr]
  try rfl
theorem al39 {ops : Array Oper} {rest : List Oper} {Q : Exit → Act → World → Prop} {w w0 : World} {a : Act} {o : Oper} {E : List Nat} {L : List (Nat × List Value)} (hw : Region.wanted o (yielded ops a.tmps) = true) (ho : o.op = .alloc 39) (hL : Hq w0 w E L)
    (h : ∀ X B, B = w.heap.size → Hq w0 X E (L ++ [(B, zeroD.cs)]) → Below w.heap.size w X → wpList Tryz.prog ops Q rest (a.put o.dst (.pointer (some ⟨B, 0, none⟩))) X) : wpList Tryz.prog ops Q (o :: rest) a w := by
  refine BigFrame.wpList_want hw fun K hK => ?_
  have hP := hK _ _ (h _ _ rfl (hL.new zeroD.cs 39 (by decide)) ((Below.refl _ _).alloc (Nat.le_refl _) _))
  unfold Oper.wp execOp
  simp only [ho]
  simp [go_sem, Tryz.zeroValue39]
  exact hP
theorem get19 (T : TT) (k : KK) (w : World) (hT : T.Is w) (hk : OkK k) : Calls Tryz.prog 19 #[.pointer (some ⟨T.t, 0, none⟩), k.agg] w fun e w' => e = .returned (.tuple #[(getD T k).agg, .bool (T.find k).isSome]) ∧ Below w.heap.size w w' := by
  cases hf : T.find k with
  | none =>
    have HT := hide (hT.on (two_below w k.cs.toArray zeroD.cs.toArray 33 39))
    have LL := hide (Hq.two w [] k.cs zeroD.cs 33 39 (Nat.succ_pos _) (Nat.succ_pos _))
    have hB2 : Hid (w.heap.size ≤ w.heap.size + 1) := hide (Nat.le_succ _)
    clear hT
    rw [show k.agg = .agg k.cs.toArray from rfl]
    go_enter Tryz.func19, Tryz.ntmps19
    go_wp2
    refine wp_region_held_drew (P := Tryz.prog) (S := fun X => T.Is X ∧ Hq w X [] [(w.heap.size, k.cs), (w.heap.size + 1, zeroD.cs)]) (by kernel_rfl) ⟨(unhide HT).drew, (unhide LL).drew⟩ (fun hS0 => ?_)
    refine gsem 0 (some 9) (.pointer (some ⟨T.t, 0, none⟩)) rfl (by kernel_rfl) (by kernel_rfl) (by kernel_rfl) (fun _ _ _ h => h) (by kernel_rfl) (by kernel_rfl) (fun _ _ => by kernel_rfl) hS0 ?_
    simp only [Act.put, nzA, nzB, nzC]
    refine gsem 1 (some 10) (.pointer (some ⟨T.t, 0, none⟩)) rfl (by kernel_rfl) (by kernel_rfl) (by kernel_rfl) (fun _ _ _ h => h) (by kernel_rfl) (by kernel_rfl) (fun _ _ => by kernel_rfl) hS0 ?_
    simp only [Act.put, nzA, nzB, nzC]
    refine gsem 2 (some 11) (.pointer (some ⟨T.t, 0, none⟩)) rfl (by kernel_rfl) (by kernel_rfl) (by kernel_rfl) (fun _ _ _ h => h) (by kernel_rfl) (by kernel_rfl) (fun _ _ => by kernel_rfl) hS0 ?_
    simp only [Act.put, nzA, nzB, nzC]
    refine gsem 3 (some 12) (.map (some T.m)) rfl (by kernel_rfl) (by kernel_rfl) (by kernel_rfl) (fun _ _ _ h => h) (by kernel_rfl) (by kernel_rfl) (fun X hX => ex_load1 69 Tryz.isAgg69 rfl rfl (hX.1.tab) rfl) hS0 ?_
    simp only [Act.put, nzA, nzB, nzC]
    refine gsem 4 (some 13) (k.agg) rfl (by kernel_rfl) (by kernel_rfl) (by kernel_rfl) (fun _ _ _ h => h) (by kernel_rfl) (by kernel_rfl) (fun X hX => ex_loadN (vs := k.cs) 33 2 row33x siz33 rfl rfl (hX.2.get 0 rfl) rfl rfl) hS0 ?_
    simp only [Act.put, nzA, nzB, nzC]
    refine gsem 5 (some 14) (.tuple #[pv (none), .bool false]) rfl (by kernel_rfl) (by kernel_rfl) (by kernel_rfl) (fun _ _ _ h => h) (by kernel_rfl) (by kernel_rfl) (fun X hX => ex_look (r := none) rfl rfl rfl hX.1.map hk (by rw [hf]; rfl)) hS0 ?_
    simp only [Act.put, nzA, nzB, nzC]
    refine gsem 6 (some 8) (.tuple #[pv (none), .bool false]) rfl (by kernel_rfl) (by kernel_rfl) (by kernel_rfl) (fun _ _ _ h => h) (by kernel_rfl) (by kernel_rfl) (fun _ _ => by kernel_rfl) hS0 ?_
    simp only [Act.put, nzA, nzB, nzC]
    refine gsem 7 (some 15) (pv (none)) rfl (by kernel_rfl) (by kernel_rfl) (by kernel_rfl) (fun _ _ _ h => h) (by kernel_rfl) (by kernel_rfl) (fun _ _ => by kernel_rfl) hS0 ?_
    simp only [Act.put, nzA, nzB, nzC]
    refine gsem 9 (some 6) (pv (none)) rfl (by kernel_rfl) (by kernel_rfl) (by kernel_rfl) (fun _ _ _ h => h) (by kernel_rfl) (by kernel_rfl) (fun _ _ => by kernel_rfl) hS0 ?_
    simp only [Act.put, nzA, nzB, nzC]
    refine gsem 8 (some 16) (.bool false) rfl (by kernel_rfl) (by kernel_rfl) (by kernel_rfl) (fun _ _ _ h => h) (by kernel_rfl) (by kernel_rfl) (fun _ _ => by kernel_rfl) hS0 ?_
    simp only [Act.put, nzA, nzB, nzC]
    refine gsem 10 (some 7) (.bool false) rfl (by kernel_rfl) (by kernel_rfl) (by kernel_rfl) (fun _ _ _ h => h) (by kernel_rfl) (by kernel_rfl) (fun _ _ => by kernel_rfl) hS0 ?_
    simp only [Act.put, nzA, nzB, nzC]
    refine wpAnyH_done (by kernel_rfl) ?_ _
    try simp only [Act.put, nzA, nzB, nzC]
    replace HT := hide hS0.1
    replace LL := hide hS0.2
    clear hS0
    unfold pv
    go_wp2_with (first | go_skip | ((refine st (vs := zeroD.cs) 1 39 (by rfl) rfl rfl rfl rfl (by simp [zeroD, zeroV, DD.cs, VV.cs, Value.oneCell']) siz39 (unhide LL) rfl (by simp [dcs_length]) (Or.inr (unhide hB2)) ?_); intro w3 L3 hf3 hs3; replace LL := hide L3; clear L3 hf3 hs3; simp only [Act.put, nzA, nzB, nzC]))
    refine ret_ct (d := zeroD) (r := 4) (q := 5) (b := w.heap.size + 1) rfl rfl rfl rfl ((unhide LL).get 1 rfl) rfl ⟨?_, (unhide LL).fr.below⟩
    unfold getD
    rw [hf]
    rfl
  | some r =>
    have HT := hide (hT.on (two_below w k.cs.toArray zeroD.cs.toArray 33 39))
    have LL := hide (Hq.two w [] k.cs zeroD.cs 33 39 (Nat.succ_pos _) (Nat.succ_pos _))
    have hB2 : Hid (w.heap.size ≤ w.heap.size + 1) := hide (Nat.le_succ _)
    clear hT
    rw [show k.agg = .agg k.cs.toArray from rfl]
    go_enter Tryz.func19, Tryz.ntmps19
    go_wp2
    refine wp_region_held_drew (P := Tryz.prog) (S := fun X => T.Is X ∧ Hq w X [] [(w.heap.size, k.cs), (w.heap.size + 1, zeroD.cs)]) (by kernel_rfl) ⟨(unhide HT).drew, (unhide LL).drew⟩ (fun hS0 => ?_)
    refine gsem 0 (some 9) (.pointer (some ⟨T.t, 0, none⟩)) rfl (by kernel_rfl) (by kernel_rfl) (by kernel_rfl) (fun _ _ _ h => h) (by kernel_rfl) (by kernel_rfl) (fun _ _ => by kernel_rfl) hS0 ?_
    simp only [Act.put, nzA, nzB, nzC]
    refine gsem 1 (some 10) (.pointer (some ⟨T.t, 0, none⟩)) rfl (by kernel_rfl) (by kernel_rfl) (by kernel_rfl) (fun _ _ _ h => h) (by kernel_rfl) (by kernel_rfl) (fun _ _ => by kernel_rfl) hS0 ?_
    simp only [Act.put, nzA, nzB, nzC]
    refine gsem 2 (some 11) (.pointer (some ⟨T.t, 0, none⟩)) rfl (by kernel_rfl) (by kernel_rfl) (by kernel_rfl) (fun _ _ _ h => h) (by kernel_rfl) (by kernel_rfl) (fun _ _ => by kernel_rfl) hS0 ?_
    simp only [Act.put, nzA, nzB, nzC]
    refine gsem 3 (some 12) (.map (some T.m)) rfl (by kernel_rfl) (by kernel_rfl) (by kernel_rfl) (fun _ _ _ h => h) (by kernel_rfl) (by kernel_rfl) (fun X hX => ex_load1 69 Tryz.isAgg69 rfl rfl (hX.1.tab) rfl) hS0 ?_
    simp only [Act.put, nzA, nzB, nzC]
    refine gsem 4 (some 13) (k.agg) rfl (by kernel_rfl) (by kernel_rfl) (by kernel_rfl) (fun _ _ _ h => h) (by kernel_rfl) (by kernel_rfl) (fun X hX => ex_loadN (vs := k.cs) 33 2 row33x siz33 rfl rfl (hX.2.get 0 rfl) rfl rfl) hS0 ?_
    simp only [Act.put, nzA, nzB, nzC]
    refine gsem 5 (some 14) (.tuple #[pv (some r.b), .bool true]) rfl (by kernel_rfl) (by kernel_rfl) (by kernel_rfl) (fun _ _ _ h => h) (by kernel_rfl) (by kernel_rfl) (fun X hX => ex_look (r := some r.b) rfl rfl rfl hX.1.map hk (by rw [hf]; rfl)) hS0 ?_
    simp only [Act.put, nzA, nzB, nzC]
    refine gsem 6 (some 8) (.tuple #[pv (some r.b), .bool true]) rfl (by kernel_rfl) (by kernel_rfl) (by kernel_rfl) (fun _ _ _ h => h) (by kernel_rfl) (by kernel_rfl) (fun _ _ => by kernel_rfl) hS0 ?_
    simp only [Act.put, nzA, nzB, nzC]
    refine gsem 7 (some 15) (pv (some r.b)) rfl (by kernel_rfl) (by kernel_rfl) (by kernel_rfl) (fun _ _ _ h => h) (by kernel_rfl) (by kernel_rfl) (fun _ _ => by kernel_rfl) hS0 ?_
    simp only [Act.put, nzA, nzB, nzC]
    refine gsem 9 (some 6) (pv (some r.b)) rfl (by kernel_rfl) (by kernel_rfl) (by kernel_rfl) (fun _ _ _ h => h) (by kernel_rfl) (by kernel_rfl) (fun _ _ => by kernel_rfl) hS0 ?_
    simp only [Act.put, nzA, nzB, nzC]
    refine gsem 8 (some 16) (.bool true) rfl (by kernel_rfl) (by kernel_rfl) (by kernel_rfl) (fun _ _ _ h => h) (by kernel_rfl) (by kernel_rfl) (fun _ _ => by kernel_rfl) hS0 ?_
    simp only [Act.put, nzA, nzB, nzC]
    refine gsem 10 (some 7) (.bool true) rfl (by kernel_rfl) (by kernel_rfl) (by kernel_rfl) (fun _ _ _ h => h) (by kernel_rfl) (by kernel_rfl) (fun _ _ => by kernel_rfl) hS0 ?_
    simp only [Act.put, nzA, nzB, nzC]
    refine wpAnyH_done (by kernel_rfl) ?_ _
    try simp only [Act.put, nzA, nzB, nzC]
    replace HT := hide hS0.1
    replace LL := hide hS0.2
    clear hS0
    have HR := hide ((unhide HT).rows r (T.find_mem hf).1)
    unfold pv
    go_wp2_with (first | go_skip | ((refine rd (by rfl) (ex_loadN (vs := r.d.cs) 39 18 row39 siz39 rfl rfl (unhide HR) rfl rfl) ?_); simp only [Act.put, nzA, nzB, nzC]) | ((refine st (vs := r.d.cs) 1 39 (by rfl) rfl rfl rfl rfl (by simp [DD.cs, VV.cs, Value.oneCell']) siz39 (unhide LL) rfl (by simp [dcs_length]) (Or.inr (unhide hB2)) ?_); intro w3 L3 hf3 hs3; replace LL := hide L3; clear L3 hf3 hs3; simp only [Act.put, nzA, nzB, nzC]))
    refine ret_ct (d := r.d) (r := 4) (q := 5) (b := w.heap.size + 1) rfl rfl rfl rfl ((unhide LL).get 1 rfl) rfl ⟨?_, (unhide LL).fr.below⟩
    unfold getD
    rw [hf]
    rfl
end
end Go.Proofs.YtpbdidnphkkenaaGreatDoor
namespace Go.Proofs.YtpbdidnphkkenaaGreatDoor
section
open Go Go.Proofs Go.RowKit
theorem all_take {l : List KK} {j : Nat} (h : j < l.length) : (l.take (j + 1)).all goodK = ((l.take j).all goodK && goodK l[j]) := by
  rw [List.take_succ_eq_append_getElem h, List.all_append]
  simp
theorem all_not {l : List KK} {j : Nat} (h : j < l.length) (hg : goodK l[j] = false) : l.all goodK = false := by
  rw [List.all_eq_false]
  exact ⟨l[j], List.getElem_mem h, by rw [hg]; decide⟩
theorem neq23 (k : KK) (w : World) : (binOp .neq 33 k.agg k.agg).run Tryz.prog w = .ok (.bool false) w := by
  unfold KK.agg
  have ht : Tryz.prog.underlying 33 = some (.struct (Tryz.prog.fieldsOf 33)) := by kernel_rfl
  rw [run_neq_struct, show (10000 : Nat) = 9998 + 1 + 1 from rfl, run_equalIn_struct _ _ _ _ _ ht (by kernel_rfl)]
  have hf : Tryz.prog.fieldsOf 33 = (match Tryz.prog.underlying 33 with | some (.struct f) => f | _ => #[]) := by kernel_rfl
  rw [hf, Tryz.underlying33]
  simp [Op.eqFields, go_sem, part]
