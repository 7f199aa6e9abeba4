import Derived.Test.YtmgflhhealdfoaaGreatDoorQv
import Derived.Test.YtmgflhhealdfoaaGreatDoorQm
import Derived.Carry
set_option linter.all false
namespace Go.Proofs.YtmgflhhealdfoaaGreatDoor
section
open Go Go.Proofs Go.Maps Go.RowKit
/-! Descriptors. -/
/-- Of what was there in w, X has other blocks at most at E. -/
structure Fr (w X : World) (E : List Nat) : Prop where
  os : X.os = w.os
  tape : X.tape = w.tape
  output : X.output = w.output
  size : w.heap.size ≤ X.heap.size
  block : ∀ b, b < w.heap.size → b ∉ E → X.heap[b]? = w.heap[b]?
theorem Fr.refl (w : World) (E : List Nat) : Fr w w E := ⟨rfl, rfl, rfl, Nat.le_refl _, fun _ _ _ => rfl⟩
theorem Fr.trans {w X Y : World} {E E' : List Nat} (h : Fr w X E) (k : Fr X Y E') (hE : ∀ b ∈ E', b ∈ E ∨ w.heap.size ≤ b) : Fr w Y E :=
  ⟨k.os.trans h.os, k.tape.trans h.tape, k.output.trans h.output, Nat.le_trans h.size k.size, fun b hb he =>
    (k.block b (Nat.lt_of_lt_of_le hb h.size) (fun he' => (hE b he').elim he (fun h2 => by omega))).trans (h.block b hb he)⟩
theorem Fr.of_below {w X : World} (h : Below w.heap.size w X) (E : List Nat) : Fr w X E := ⟨h.os, h.tape, h.output, h.size, fun b hb _ => h.block b hb⟩
theorem Fr.below {w X : World} (h : Fr w X []) : Below w.heap.size w X := ⟨h.os, h.tape, h.output, h.size, fun b hb => h.block b hb (by simp)⟩
theorem Fr.on {w X Y : World} {E : List Nat} (h : Fr w X E) (k : Below X.heap.size X Y) : Fr w Y E := h.trans (Fr.of_below k []) (by simp)
theorem Fr.mono {w X : World} {E E' : List Nat} (h : Fr w X E) (hE : ∀ b ∈ E, b ∈ E' ∨ w.heap.size ≤ b) : Fr w X E' := (Fr.refl w E').trans h hE
theorem Fr.drew {w X : World} {E : List Nat} (h : Fr w X E) : Fr w X.drew E := ⟨h.os, h.tape, h.output, h.size, h.block⟩
theorem os_setCells (b : Nat) : ∀ (vs : List Value) (o : Nat) (X : World), (X.setCells b o vs).os = X.os ∧ (X.setCells b o vs).tape = X.tape ∧ (X.setCells b o vs).output = X.output
  | [], _, _ => ⟨rfl, rfl, rfl⟩
  | v :: vs, o, X => by
    obtain ⟨h1, h2, h3⟩ := os_setCells b vs (o + 1) (X.setCell ⟨b, o, none⟩ v)
    rw [World.setCells]
    exact ⟨h1, h2, h3⟩
theorem Fr.setCells (X : World) (b p : Nat) (vs : List Value) : Fr X (X.setCells b p vs) [b] :=
  ⟨(os_setCells b vs p X).1, (os_setCells b vs p X).2.1, (os_setCells b vs p X).2.2, by rw [size_setCells]; exact Nat.le_refl _, fun g _ hg => heap_setCells b vs p X g (by simpa using hg)⟩
theorem Fr.grown {X Y : World} {row : Option Nat} (h : X.grownBy Y row) : Fr X Y row.toList :=
  ⟨h.os, h.tape, h.output, h.size, fun b hb hE => h.block b hb (fun e => hE (by rw [← e]; simp))⟩
/-- Our blocks hold what they held; of what was there ahead only blocks of E may have changed. -/
structure Hq (w X : World) (E : List Nat) (L : List (Nat × List Value)) : Prop where
  fr : Fr w X E
  all : ∀ q ∈ L, Holds X q.1 q.2 ∧ 0 < q.2.length
  nd : (L.map (·.1)).Nodup
theorem Hq.nil (w : World) (E : List Nat) : Hq w w E [] := ⟨Fr.refl _ _, (fun q hq => by cases hq), by simp⟩
theorem Hq.lt {w X : World} {E : List Nat} {L : List (Nat × List Value)} (h : Hq w X E L) : ∀ q ∈ L, q.1 < X.heap.size := fun q hq => (h.all q hq).1.lt (h.all q hq).2
theorem Hq.get {w X : World} {E : List Nat} {L : List (Nat × List Value)} (h : Hq w X E L) (i : Nat) {b : Nat} {cs : List Value} (hi : L[i]? = some (b, cs)) : Holds X b cs := (h.all _ (List.mem_of_getElem? hi)).1
theorem Hq.drew {w X : World} {E : List Nat} {L : List (Nat × List Value)} (h : Hq w X E L) : Hq w X.drew E L := ⟨h.fr.drew, fun q hq => ⟨(h.all q hq).1.block rfl, (h.all q hq).2⟩, h.nd⟩
theorem Hq.on {w X Y : World} {E : List Nat} {L : List (Nat × List Value)} (h : Hq w X E L) (k : Below X.heap.size X Y) : Hq w Y E L :=
  ⟨h.fr.on k, fun q hq => ⟨(h.all q hq).1.block (k.block _ (h.lt q hq)), (h.all q hq).2⟩, h.nd⟩
theorem Hq.step {w X Y : World} {E E' : List Nat} {L : List (Nat × List Value)} (h : Hq w X E L) (k : Fr X Y E') (hE : ∀ b ∈ E', b ∈ E ∨ w.heap.size ≤ b) (hL : ∀ q ∈ L, q.1 ∉ E') : Hq w Y E L :=
  ⟨h.fr.trans k hE, fun q hq => ⟨(h.all q hq).1.block (k.block _ (h.lt q hq) (hL q hq)), (h.all q hq).2⟩, h.nd⟩
theorem Hq.add {w X : World} {E : List Nat} {L : List (Nat × List Value)} (h : Hq w X E L) {b : Nat} {cs : List Value} (hb : Holds X b cs) (hc : 0 < cs.length) (hn : ∀ q ∈ L, q.1 ≠ b) : Hq w X E (L ++ [(b, cs)]) := by
  refine ⟨h.fr, fun q hq => ?_, ?_⟩
  · rcases List.mem_append.1 hq with hq | hq
    · exact h.all q hq
    · obtain rfl : q = (b, cs) := by simpa using hq
      exact ⟨hb, hc⟩
  · rw [List.map_append, List.nodup_append]
    refine ⟨h.nd, by simp, fun x hx y hy => ?_⟩
    obtain ⟨q, hq, rfl⟩ := List.mem_map.1 hx
    obtain rfl : y = b := by simpa using hy
    exact hn q hq
theorem Hq.new {w X : World} {E : List Nat} {L : List (Nat × List Value)} (h : Hq w X E L) (cs : List Value) (t : TypeId) (hc : 0 < cs.length) : Hq w (X.alloc (Obj.cells cs.toArray t)) E (L ++ [(X.heap.size, cs)]) :=
  (h.on ((Below.refl _ _).alloc (Nat.le_refl _) _)).add (Holds.new X cs t) hc (fun q hq => Nat.ne_of_lt (h.lt q hq))
theorem Hq.put {w X : World} {E : List Nat} {L : List (Nat × List Value)} (h : Hq w X E L) (i : Nat) {b : Nat} {cs : List Value} (hi : L[i]? = some (b, cs)) (p : Nat) (vs : List Value) (hp : p + vs.length ≤ cs.length) (hE : b ∈ E ∨ w.heap.size ≤ b) : Hq w (X.setCells b p vs) E (L.set i (b, cput cs p vs)) := by
  have hil := (List.getElem?_eq_some_iff.1 hi).1
  have hie := (List.getElem?_eq_some_iff.1 hi).2
  have hH := h.get i hi
  have hlen : (cput cs p vs).length = cs.length := by simp [cput]; omega
  refine ⟨h.fr.trans (Fr.setCells X b p vs) (by simpa using hE), fun q hq => ?_, ?_⟩
  · rcases List.getElem?_of_mem hq with ⟨j, hj⟩
    rw [List.getElem?_set] at hj
    split at hj
    · rename_i e
      subst e
      obtain rfl := Option.some.inj hj
      have h1 := (h.all _ (List.mem_of_getElem? hi)).2
      exact ⟨hH.put p vs hp, by simpa [hlen] using h1⟩
    · rename_i e
      have hm := List.mem_of_getElem? hj
      refine ⟨(h.all q hm).1.block (heap_setCells b vs p X q.1 ?_), (h.all q hm).2⟩
      intro eb
      have hjl := (List.getElem?_eq_some_iff.1 hj).1
      have h1 : (L.map (·.1))[i]? = some b := by simp [hi]
      have h2 : (L.map (·.1))[j]? = some b := by simp [hj, eb]
      have := (List.getElem?_inj (by simpa using hil) h.nd).1 (h1.trans h2.symm)
      exact e this
  · have e : (L.set i (b, cput cs p vs)).map (·.1) = L.map (·.1) := by
      rw [List.map_set]
      apply List.ext_getElem?
      intro j
      rw [List.getElem?_set]
      split
      · rename_i e
        subst e
        simp [hil, hie]
      · rfl
    rw [e]
    exact h.nd
/-! A table of the program. -/
instance decK : DecidableEq KK := fun a b => decidable_of_iff (a.s = b.s ∧ a.n = b.n) ⟨fun h => KK.ext' h.1 h.2, fun h => h ▸ ⟨rfl, rfl⟩⟩
/-- A row: its block, and what it holds. -/
structure RR where
  b : Nat
  k : KK
  d : DD
  n : Nat
  gone : Bool
def RR.cs (r : RR) : List Value := r.k.cs ++ (r.d.cs ++ [.int .u64 r.n, .bool r.gone])
theorem dcs_length (d : DD) : d.cs.length = 18 := rfl
theorem rcs_length (r : RR) : r.cs.length = 22 := rfl
def ptrs (l : List Nat) : List Value := l.map (fun b => .pointer (some ⟨b, 0, none⟩))
/-- A list of pointers that is ours. -/
def OwnP (W : World) (v : Value) (l : List Nat) : Prop := W.ownsRow 0 168 1 v l.length (ptrs l)
theorem OwnP.nil (W : World) : OwnP W (.slice none 0 0) [] := ⟨rfl, .inl ⟨rfl, rfl⟩⟩
theorem OwnP.lt {W : World} {v : Value} {l : List Nat} (h : OwnP W v l) : ∀ g, v.ownBlock = some g → g < W.heap.size := fun g hg => (World.ownsRow.lt h g hg).2
theorem OwnP.block {W W' : World} {v : Value} {l : List Nat} (h : OwnP W v l) (he : ∀ g, v.ownBlock = some g → W'.heap[g]? = W.heap[g]?) : OwnP W' v l := by
  obtain ⟨h1, h2⟩ := h
  refine ⟨h1, ?_⟩
  rcases h2 with h2 | ⟨g, cap, cur, rfl, h3, h4, h5⟩
  · exact .inl h2
  · exact .inr ⟨g, cap, cur, rfl, h3, (he g rfl).trans h4, h5⟩
structure TT where
  t : Nat
  m : Nat
  rv : Value
  rows : List RR
  last : Nat
def TT.live (T : TT) : List RR := T.rows.filter (fun r => !r.gone)
def TT.find (T : TT) (k : KK) : Option RR := T.live.find? (fun r => decide (r.k = k))
def TT.blocks (T : TT) : List Nat := T.t :: T.m :: (T.rv.ownBlock.toList ++ T.rows.map (·.b))
def TT.cs (T : TT) : List Value := [.map (some T.m), T.rv, .int .u64 T.last]
structure TT.Is (T : TT) (W : World) : Prop where
  tab : Holds W T.t T.cs
  map : MapIs W T.m T.last T.live.length (fun k => (T.find k).map (·.b))
  own : OwnP W T.rv (T.rows.map (·.b))
  rows : ∀ r ∈ T.rows, Holds W r.b r.cs
  nd : T.blocks.Nodup
  rise : T.rows.Pairwise (fun a b => a.n < b.n)
  num : ∀ r ∈ T.rows, 1 ≤ r.n ∧ r.n ≤ T.last
  keys : T.live.Pairwise (fun a b => a.k ≠ b.k)
  good : ∀ r ∈ T.live, goodK r.k = true
theorem TT.Is.lt {T : TT} {W : World} (h : T.Is W) : ∀ b ∈ T.blocks, b < W.heap.size := by
  intro b hb
  simp only [TT.blocks, List.mem_cons, List.mem_append, List.mem_map] at hb
  rcases hb with rfl | rfl | hb | ⟨r, hr, rfl⟩
  · exact h.tab.lt (by simp [TT.cs])
  · exact h.map.lt
  · exact h.own.lt b (by simpa using hb)
  · exact (h.rows r hr).lt (by simp [rcs_length])
theorem TT.Is.block {T : TT} {W W' : World} (h : T.Is W) (he : ∀ b ∈ T.blocks, W'.heap[b]? = W.heap[b]?) : T.Is W' :=
  ⟨h.tab.block (he _ (by simp [TT.blocks])), h.map.block (he _ (by simp [TT.blocks])), h.own.block (fun g hg => he g (by simp [TT.blocks, hg])), fun r hr => (h.rows r hr).block (he _ (by
    simp only [TT.blocks, List.mem_cons, List.mem_append, List.mem_map]
    exact .inr (.inr (.inr ⟨r, hr, rfl⟩)))), h.nd, h.rise, h.num, h.keys, h.good⟩
theorem TT.Is.on {T : TT} {W W' : World} (h : T.Is W) (hb : Below W.heap.size W W') : T.Is W' := h.block (fun b hb' => hb.block b (h.lt b hb'))
theorem TT.Is.drew {T : TT} {W : World} (h : T.Is W) : T.Is W.drew := h.block (fun _ _ => rfl)
theorem TT.find_mem {T : TT} {k : KK} {r : RR} (h : T.find k = some r) : r ∈ T.rows ∧ r.gone = false ∧ r.k = k := by
  have h1 := List.mem_of_find?_eq_some h
  have h2 := List.find?_some h
  simp [TT.live] at h1 h2
  exact ⟨h1.1, h1.2, h2⟩
/-! Operations, by what they yield. -/
section
variable {md : Region.Mode} {ops : Array Oper} {rest : List Oper} {Q : Exit → Act → World → Prop} {S : World → Prop} {w w0 : World} {fuel : Nat} {listed : Array Bool} {a : Act} {o : Oper}
theorem gsem (i : Nat) (dst : Option Tmp) (v : Value) (hi : ops[i]? = some o) (hs : Region.noSelect ops = true) (hf : Region.free md ops listed i = true) (hr : (Region.ready md ops listed).contains i = true)
    (hQ : ∀ c a w, Q (.panic c) (a.put dst v) w → Q (.panic c) a w) (hd : o.dst = dst) (hw : Region.wanted o (yielded ops a.tmps) = true) (hy : ∀ X, S X → (execOp a.eval o).run Tryz.prog X = .ok (.value v) X)
    (hS : S w) (h : wpAnyH Tryz.prog md ops Q S fuel (listed.setIfInBounds i true) (a.put dst v) w) : wpAnyH Tryz.prog md ops Q S (fuel + 1) listed a w := by
  subst hd
  exact wpAnyH_take hi hs hf hr hQ (Or.inl ⟨hw, hy⟩) hS h
theorem rd {v : Value} (hw : Region.wanted o (yielded ops a.tmps) = true) (hy : (execOp a.eval o).run Tryz.prog w = .ok (.value v) w) (h : wpList Tryz.prog ops Q rest (a.put o.dst v) w) : wpList Tryz.prog ops Q (o :: rest) a w := by
  refine BigFrame.wpList_want hw fun K hK => ?_
  have hP := hK _ _ h
  unfold Oper.wp
  rw [hy]
  exact hP
theorem run_storeVar_any (w : World) (b p : Nat) (ty : TypeId) (v : Value) (vs : List Value) (hv : v.cells.toList = vs) (ht : w.there b p vs.length) (hi : (Tryz.prog.info? ty).map (·.size) = some vs.length) (h1 : ∀ u ∈ vs, u.oneCell' = true) :
    (storeVar ty ⟨b, p, none⟩ v).run Tryz.prog w = .ok () (w.setCells b p vs) := by
  have := run_storeCells_cells (P := Tryz.prog) b p vs 0 w (fun j hj => by simpa using (ht j hj).1) (fun j hj => by simpa using (ht j hj).2) h1
  cases hq : Tryz.prog.info? ty with
  | none => simp [hq] at hi
  | some i =>
    have hs : v.cells.size = i.size := by
      have e : v.cells.size = vs.length := by rw [← hv]; simp
      simp [hq] at hi; omega
    simp only [Nat.add_zero] at this
    simp [storeVar, sizeOf, typeInfo, hq, hs, hv, this]
theorem st {E : List Nat} {L : List (Nat × List Value)} {b p : Nat} {cs vs : List Value} {v : Value} {x y : Operand} (i : Nat) (t : TypeId) (hw : Region.wanted o (yielded ops a.tmps) = true) (ho : o.op = .store t x y) (hx : a.eval x = .pointer (some ⟨b, p, none⟩)) (hy : a.eval y = v)
    (hv : v.cells.toList = vs) (h1 : ∀ u ∈ vs, u.oneCell' = true) (hi : (Tryz.prog.info? t).map (·.size) = some vs.length) (hL : Hq w0 w E L) (hg : L[i]? = some (b, cs)) (hp : p + vs.length ≤ cs.length) (hE : b ∈ E ∨ w0.heap.size ≤ b)
    (h : ∀ X, Hq w0 X E (L.set i (b, cput cs p vs)) → Fr w X [b] → X.heap.size = w.heap.size → wpList Tryz.prog ops Q rest (a.put o.dst undef) X) : wpList Tryz.prog ops Q (o :: rest) a w := by
  refine BigFrame.wpList_want hw fun K hK => ?_
  have hP := hK _ _ (h _ (hL.put i hg p vs hp hE) (Fr.setCells w b p vs) (size_setCells _ _ _))
  unfold Oper.wp execOp
  simp only [ho, hx, hy, Instr.storeAt, Instr.sureAddr, Sem.run_bind, Sem.run_pure, Result.andThen_ok, run_storeVar_any w b p t v vs hv ((hL.get i hg).there p vs.length hp) hi h1]
  exact hP
theorem bx {E : List Nat} {L : List (Nat × List Value)} {v : Value} {x : Operand} (t : TypeId) (cs : List Value) (hw : Region.wanted o (yielded ops a.tmps) = true) (ho : o.op = .box t x) (hx : a.eval x = v) (hv : v.cells.toList = cs) (hc : 0 < cs.length) (hL : Hq w0 w E L)
    (h : ∀ X B, B = w.heap.size → Hq w0 X E (L ++ [(B, cs)]) → Below w.heap.size w X → wpList Tryz.prog ops Q rest (a.put o.dst (.pointer (some ⟨B, 0, none⟩))) X) : wpList Tryz.prog ops Q (o :: rest) a w := by
  refine BigFrame.wpList_want hw fun K hK => ?_
  have e : v.cells = cs.toArray := by rw [← hv]
  have hP := hK _ _ (h _ _ rfl (hL.new cs t hc) ((Below.refl _ _).alloc (Nat.le_refl _) _))
  have e2 : (Instr.box t v).run Tryz.prog w = .ok (.pointer (some ⟨w.heap.size, 0, none⟩)) (w.alloc (Obj.cells cs.toArray t)) := by rw [← e]; rfl
  unfold Oper.wp execOp
  simp only [ho, hx]
  simp [e2]
  exact hP
end
end
end Go.Proofs.YtmgflhhealdfoaaGreatDoor
namespace Go.Proofs.YtmgflhhealdfoaaGreatDoor
set_option maxHeartbeats 1000000
section
open Go Go.Proofs Go.Maps Go.RowKit
/-! The table's small functions. -/
theorem new10 (w : World) : Calls Tryz.prog 53 #[] w fun e w' => ∃ T : TT, e = .returned (.pointer (some ⟨T.t, 0, none⟩)) ∧ T.Is w' ∧ T.rows = [] ∧ T.last = 0 ∧ (∀ b ∈ T.blocks, w.heap.size ≤ b) ∧ Below w.heap.size w w' := by
  have hmm := @run_makeMap Tryz.prog
  go_enter Tryz.func53, Tryz.ntmps53
  go_wp2
  go_ret
  have hN := Holds.new (w.alloc (Obj.map #[] 0)) [.map (some w.heap.size), .slice none 0 0, .int .u64 0] 144
  have hM := MapIs.made w
  have hz : (w.alloc (Obj.map #[] 0)).heap.size = w.heap.size + 1 := by simp
  rw [hz] at hN
  have hb : Below w.heap.size w ((w.alloc (Obj.map #[] 0)).alloc (Obj.cells #[Value.map (some w.heap.size), Value.slice none 0 0, Value.int IntKind.u64 0] 144)) := ((Below.refl _ _).alloc (Nat.le_refl _) _).alloc (by simp) _
  refine ⟨⟨w.heap.size + 1, w.heap.size, .slice none 0 0, [], 0⟩, rfl, ⟨hN, ?_, OwnP.nil _, (fun r hr => by cases hr), by simp [TT.blocks, Value.ownBlock], by simp, (fun r hr => by cases hr), by simp [TT.live], (fun r hr => by simp [TT.live] at hr)⟩, rfl, rfl, ?_, hb⟩
  · refine MapIs.block (w := w.alloc (Obj.map #[] 0)) ?_ (Below.heap_alloc _ _ _ (by simp))
    exact hM
  · intro b hb
    simp [TT.blocks, Value.ownBlock] at hb
    rcases hb with rfl | rfl <;> simp
theorem ex_len {o : Oper} {a : Act} {w : World} {m : Operand} {b n sz : Nat} {F : KK → Option Nat} (ho : o.op = .call { callee := .builtin .len, args := #[m], argTypes := #[141] }) (hm : a.eval m = .map (some b)) (h : MapIs w b n sz F) : (execOp a.eval o).run Tryz.prog w = .ok (.value (.int .i64 sz)) w := by
  simp [execOp, ho, resolve, invoke, builtin, hm, h.len o.type, Result.andThen]
theorem len30 (T : TT) (w : World) (hT : T.Is w) : Calls Tryz.prog 77 #[.pointer (some ⟨T.t, 0, none⟩)] w fun e w' => e = .returned (.int .i64 T.live.length) ∧ w' = w := by
  have HT := hide hT
  clear hT
  go_enter Tryz.func77, Tryz.ntmps77
  go_wp2_with (first | go_skip | (refine rd (by rfl) (ex_load1 141 Tryz.isAgg141 rfl rfl (unhide HT).tab rfl) ?_; simp only [Act.put, List.setIfInBounds_toArray, List.set_cons_succ, List.set_cons_zero]) | (refine rd (by rfl) (ex_len rfl rfl (unhide HT).map) ?_; simp only [Act.put, List.setIfInBounds_toArray, List.set_cons_succ, List.set_cons_zero]))
  go_ret
  exact ⟨rfl, rfl⟩
end
end Go.Proofs.YtmgflhhealdfoaaGreatDoor
namespace Go.Proofs.YtmgflhhealdfoaaGreatDoor
set_option maxHeartbeats 2000000
section
open Go Go.Proofs Go.Maps Go.RowKit
theorem two_below (w : World) (a b : Array Value) (s t : TypeId) : Below w.heap.size w ((w.alloc (Obj.cells a s)).alloc (Obj.cells b t)) := ((Below.refl _ _).alloc (Nat.le_refl _) _).alloc (by simp) _
theorem Hq.two (w : World) (E : List Nat) (a b : List Value) (s t : TypeId) (ha : 0 < a.length) (hb : 0 < b.length) : Hq w ((w.alloc (Obj.cells a.toArray s)).alloc (Obj.cells b.toArray t)) E [(w.heap.size, a), (w.heap.size + 1, b)] := by
  have h := ((Hq.nil w E).new a s ha).new b t hb
  rw [show (w.alloc (Obj.cells a.toArray s)).heap.size = w.heap.size + 1 by simp] at h
  exact h
def getD (T : TT) (k : KK) : DD := ((T.find k).map (·.d)).getD zeroD
theorem row33x : ∃ d, Tryz.prog.underlying 26 = some d ∧ d.isRow = true := ⟨_, Tryz.underlying26, rfl⟩
theorem row39 : ∃ d, Tryz.prog.underlying 38 = some d ∧ d.isRow = true := ⟨_, Tryz.underlying38, rfl⟩
theorem row58 : ∃ d, Tryz.prog.underlying 53 = some d ∧ d.isRow = true := ⟨_, Tryz.underlying53, rfl⟩
theorem siz33 : (Tryz.prog.info? 26).map (·.size) = some 2 := by kernel_rfl
theorem siz39 : (Tryz.prog.info? 38).map (·.size) = some 18 := by kernel_rfl
theorem siz58 : (Tryz.prog.info? 53).map (·.size) = some 20 := by kernel_rfl
theorem ex_look {o : Oper} {a : Act} {w : World} {m x : Operand} {b n sz : Nat} {F : KK → Option Nat} {k : KK} {r : Option Nat} (ho : o.op = .lookup 141 m x true) (hm : a.eval m = .map (some b)) (hx : a.eval x = k.agg) (h : MapIs w b n sz F) (hk : OkK k) (hr : F k = r) : (execOp a.eval o).run Tryz.prog w = .ok (.value (.tuple #[pv r, .bool r.isSome])) w := by
  subst hr
  simp [execOp, ho, hm, hx, h.look hk, Result.andThen]
theorem ret_ct {fn : Func} {R : Ending → World → Prop} {a : Act} {w : World} {b r q : Nat} {d : DD} {v : Value} {cs : List Value} (hr : fn.results = #[.cell r 38, .tmp q]) (hdf : a.defers = [])
    (hx : a.tmps.getD r undef = .pointer (some ⟨b, 0, none⟩)) (hq : a.tmps.getD q undef = v) (hc : Holds w b cs) (hcs : (cs.drop 0).take 18 = d.cs) (h : R (.returned (.tuple #[d.agg, v])) w) : bodyPost Tryz.prog fn R .ret a w := by
  obtain ⟨t, hu, hd⟩ := row39
  have h0 := hc.mid 0 18
  rw [hcs] at h0
  have hl := run_loadVar_mid (P := Tryz.prog) w b 0 38 _ t h0 hu hd siz39
  refine ⟨hdf, _, ?_, h⟩
  simp only [Array.getD_eq_getD_getElem?] at hx hq
  unfold results
  simp [hr, hx, hq, hl, asAddr]
  try rfl
theorem get19 (T : TT) (k : KK) (w : World) (hT : T.Is w) (hk : OkK k) : Calls Tryz.prog 126 #[.pointer (some ⟨T.t, 0, none⟩), k.agg] w fun e w' => e = .returned (.tuple #[(getD T k).agg, .bool (T.find k).isSome]) ∧ Below w.heap.size w w' := by
  cases hf : T.find k with
  | none =>
    have HT := hide (hT.on (two_below w k.cs.toArray zeroD.cs.toArray 26 38))
    have LL := hide (Hq.two w [] k.cs zeroD.cs 26 38 (Nat.succ_pos _) (Nat.succ_pos _))
    have hB2 : Hid (w.heap.size ≤ w.heap.size + 1) := hide (Nat.le_succ _)
    clear hT
    rw [show k.agg = .agg k.cs.toArray from rfl]
    go_enter Tryz.func126, Tryz.ntmps126
    go_wp2
    refine wp_region_held_drew (P := Tryz.prog) (S := fun X => T.Is X ∧ Hq w X [] [(w.heap.size, k.cs), (w.heap.size + 1, zeroD.cs)]) (by kernel_rfl) ⟨(unhide HT).drew, (unhide LL).drew⟩ (fun hS0 => ?_)
    refine gsem 0 (some 9) (.pointer (some ⟨T.t, 0, none⟩)) rfl (by kernel_rfl) (by kernel_rfl) (by kernel_rfl) (fun _ _ _ h => h) (by kernel_rfl) (by kernel_rfl) (fun _ _ => by kernel_rfl) hS0 ?_
    simp only [Act.put, List.setIfInBounds_toArray, List.set_cons_succ, List.set_cons_zero]
    refine gsem 1 (some 10) (.pointer (some ⟨T.t, 0, none⟩)) rfl (by kernel_rfl) (by kernel_rfl) (by kernel_rfl) (fun _ _ _ h => h) (by kernel_rfl) (by kernel_rfl) (fun _ _ => by kernel_rfl) hS0 ?_
    simp only [Act.put, List.setIfInBounds_toArray, List.set_cons_succ, List.set_cons_zero]
    refine gsem 2 (some 11) (.pointer (some ⟨T.t, 0, none⟩)) rfl (by kernel_rfl) (by kernel_rfl) (by kernel_rfl) (fun _ _ _ h => h) (by kernel_rfl) (by kernel_rfl) (fun _ _ => by kernel_rfl) hS0 ?_
    simp only [Act.put, List.setIfInBounds_toArray, List.set_cons_succ, List.set_cons_zero]
    refine gsem 3 (some 12) (.map (some T.m)) rfl (by kernel_rfl) (by kernel_rfl) (by kernel_rfl) (fun _ _ _ h => h) (by kernel_rfl) (by kernel_rfl) (fun X hX => ex_load1 141 Tryz.isAgg141 rfl rfl (hX.1.tab) rfl) hS0 ?_
    simp only [Act.put, List.setIfInBounds_toArray, List.set_cons_succ, List.set_cons_zero]
    refine gsem 4 (some 13) (k.agg) rfl (by kernel_rfl) (by kernel_rfl) (by kernel_rfl) (fun _ _ _ h => h) (by kernel_rfl) (by kernel_rfl) (fun X hX => ex_loadN (vs := k.cs) 26 2 row33x siz33 rfl rfl (hX.2.get 0 rfl) rfl rfl) hS0 ?_
    simp only [Act.put, List.setIfInBounds_toArray, List.set_cons_succ, List.set_cons_zero]
    refine gsem 5 (some 14) (.tuple #[pv (none), .bool false]) rfl (by kernel_rfl) (by kernel_rfl) (by kernel_rfl) (fun _ _ _ h => h) (by kernel_rfl) (by kernel_rfl) (fun X hX => ex_look (r := none) rfl rfl rfl hX.1.map hk (by rw [hf]; rfl)) hS0 ?_
    simp only [Act.put, List.setIfInBounds_toArray, List.set_cons_succ, List.set_cons_zero]
    refine gsem 6 (some 8) (.tuple #[pv (none), .bool false]) rfl (by kernel_rfl) (by kernel_rfl) (by kernel_rfl) (fun _ _ _ h => h) (by kernel_rfl) (by kernel_rfl) (fun _ _ => by kernel_rfl) hS0 ?_
    simp only [Act.put, List.setIfInBounds_toArray, List.set_cons_succ, List.set_cons_zero]
    refine gsem 7 (some 15) (pv (none)) rfl (by kernel_rfl) (by kernel_rfl) (by kernel_rfl) (fun _ _ _ h => h) (by kernel_rfl) (by kernel_rfl) (fun _ _ => by kernel_rfl) hS0 ?_
    simp only [Act.put, List.setIfInBounds_toArray, List.set_cons_succ, List.set_cons_zero]
    refine gsem 9 (some 6) (pv (none)) rfl (by kernel_rfl) (by kernel_rfl) (by kernel_rfl) (fun _ _ _ h => h) (by kernel_rfl) (by kernel_rfl) (fun _ _ => by kernel_rfl) hS0 ?_
    simp only [Act.put, List.setIfInBounds_toArray, List.set_cons_succ, List.set_cons_zero]
    refine gsem 8 (some 16) (.bool false) rfl (by kernel_rfl) (by kernel_rfl) (by kernel_rfl) (fun _ _ _ h => h) (by kernel_rfl) (by kernel_rfl) (fun _ _ => by kernel_rfl) hS0 ?_
    simp only [Act.put, List.setIfInBounds_toArray, List.set_cons_succ, List.set_cons_zero]
    refine gsem 10 (some 7) (.bool false) rfl (by kernel_rfl) (by kernel_rfl) (by kernel_rfl) (fun _ _ _ h => h) (by kernel_rfl) (by kernel_rfl) (fun _ _ => by kernel_rfl) hS0 ?_
    simp only [Act.put, List.setIfInBounds_toArray, List.set_cons_succ, List.set_cons_zero]
    refine wpAnyH_done (by kernel_rfl) ?_ _
    try simp only [Act.put, List.setIfInBounds_toArray, List.set_cons_succ, List.set_cons_zero]
    replace HT := hide hS0.1
    replace LL := hide hS0.2
    clear hS0
    unfold pv
    go_wp2_with (first | go_skip | ((refine st (vs := zeroD.cs) 1 38 (by rfl) rfl rfl rfl rfl (by simp [zeroD, zeroV, DD.cs, VV.cs, Value.oneCell']) siz39 (unhide LL) rfl (by simp [dcs_length]) (Or.inr (unhide hB2)) ?_); intro w3 L3 hf3 hs3; replace LL := hide L3; clear L3 hf3 hs3; simp only [Act.put, List.setIfInBounds_toArray, List.set_cons_succ, List.set_cons_zero]))
    refine ret_ct (d := zeroD) (r := 4) (q := 5) (b := w.heap.size + 1) rfl rfl rfl rfl ((unhide LL).get 1 rfl) rfl ⟨?_, (unhide LL).fr.below⟩
    unfold getD
    rw [hf]
    rfl
  | some r =>
    have HT := hide (hT.on (two_below w k.cs.toArray zeroD.cs.toArray 26 38))
    have LL := hide (Hq.two w [] k.cs zeroD.cs 26 38 (Nat.succ_pos _) (Nat.succ_pos _))
    have hB2 : Hid (w.heap.size ≤ w.heap.size + 1) := hide (Nat.le_succ _)
    clear hT
    rw [show k.agg = .agg k.cs.toArray from rfl]
    go_enter Tryz.func126, Tryz.ntmps126
    go_wp2
    refine wp_region_held_drew (P := Tryz.prog) (S := fun X => T.Is X ∧ Hq w X [] [(w.heap.size, k.cs), (w.heap.size + 1, zeroD.cs)]) (by kernel_rfl) ⟨(unhide HT).drew, (unhide LL).drew⟩ (fun hS0 => ?_)
    refine gsem 0 (some 9) (.pointer (some ⟨T.t, 0, none⟩)) rfl (by kernel_rfl) (by kernel_rfl) (by kernel_rfl) (fun _ _ _ h => h) (by kernel_rfl) (by kernel_rfl) (fun _ _ => by kernel_rfl) hS0 ?_
    simp only [Act.put, List.setIfInBounds_toArray, List.set_cons_succ, List.set_cons_zero]
    refine gsem 1 (some 10) (.pointer (some ⟨T.t, 0, none⟩)) rfl (by kernel_rfl) (by kernel_rfl) (by kernel_rfl) (fun _ _ _ h => h) (by kernel_rfl) (by kernel_rfl) (fun _ _ => by kernel_rfl) hS0 ?_
    simp only [Act.put, List.setIfInBounds_toArray, List.set_cons_succ, List.set_cons_zero]
    refine gsem 2 (some 11) (.pointer (some ⟨T.t, 0, none⟩)) rfl (by kernel_rfl) (by kernel_rfl) (by kernel_rfl) (fun _ _ _ h => h) (by kernel_rfl) (by kernel_rfl) (fun _ _ => by kernel_rfl) hS0 ?_
    simp only [Act.put, List.setIfInBounds_toArray, List.set_cons_succ, List.set_cons_zero]
    refine gsem 3 (some 12) (.map (some T.m)) rfl (by kernel_rfl) (by kernel_rfl) (by kernel_rfl) (fun _ _ _ h => h) (by kernel_rfl) (by kernel_rfl) (fun X hX => ex_load1 141 Tryz.isAgg141 rfl rfl (hX.1.tab) rfl) hS0 ?_
    simp only [Act.put, List.setIfInBounds_toArray, List.set_cons_succ, List.set_cons_zero]
    refine gsem 4 (some 13) (k.agg) rfl (by kernel_rfl) (by kernel_rfl) (by kernel_rfl) (fun _ _ _ h => h) (by kernel_rfl) (by kernel_rfl) (fun X hX => ex_loadN (vs := k.cs) 26 2 row33x siz33 rfl rfl (hX.2.get 0 rfl) rfl rfl) hS0 ?_
    simp only [Act.put, List.setIfInBounds_toArray, List.set_cons_succ, List.set_cons_zero]
    refine gsem 5 (some 14) (.tuple #[pv (some r.b), .bool true]) rfl (by kernel_rfl) (by kernel_rfl) (by kernel_rfl) (fun _ _ _ h => h) (by kernel_rfl) (by kernel_rfl) (fun X hX => ex_look (r := some r.b) rfl rfl rfl hX.1.map hk (by rw [hf]; rfl)) hS0 ?_
    simp only [Act.put, List.setIfInBounds_toArray, List.set_cons_succ, List.set_cons_zero]
    refine gsem 6 (some 8) (.tuple #[pv (some r.b), .bool true]) rfl (by kernel_rfl) (by kernel_rfl) (by kernel_rfl) (fun _ _ _ h => h) (by kernel_rfl) (by kernel_rfl) (fun _ _ => by kernel_rfl) hS0 ?_
    simp only [Act.put, List.setIfInBounds_toArray, List.set_cons_succ, List.set_cons_zero]
    refine gsem 7 (some 15) (pv (some r.b)) rfl (by kernel_rfl) (by kernel_rfl) (by kernel_rfl) (fun _ _ _ h => h) (by kernel_rfl) (by kernel_rfl) (fun _ _ => by kernel_rfl) hS0 ?_
    simp only [Act.put, List.setIfInBounds_toArray, List.set_cons_succ, List.set_cons_zero]
    refine gsem 9 (some 6) (pv (some r.b)) rfl (by kernel_rfl) (by kernel_rfl) (by kernel_rfl) (fun _ _ _ h => h) (by kernel_rfl) (by kernel_rfl) (fun _ _ => by kernel_rfl) hS0 ?_
    simp only [Act.put, List.setIfInBounds_toArray, List.set_cons_succ, List.set_cons_zero]
    refine gsem 8 (some 16) (.bool true) rfl (by kernel_rfl) (by kernel_rfl) (by kernel_rfl) (fun _ _ _ h => h) (by kernel_rfl) (by kernel_rfl) (fun _ _ => by kernel_rfl) hS0 ?_
    simp only [Act.put, List.setIfInBounds_toArray, List.set_cons_succ, List.set_cons_zero]
    refine gsem 10 (some 7) (.bool true) rfl (by kernel_rfl) (by kernel_rfl) (by kernel_rfl) (fun _ _ _ h => h) (by kernel_rfl) (by kernel_rfl) (fun _ _ => by kernel_rfl) hS0 ?_
    simp only [Act.put, List.setIfInBounds_toArray, List.set_cons_succ, List.set_cons_zero]
    refine wpAnyH_done (by kernel_rfl) ?_ _
    try simp only [Act.put, List.setIfInBounds_toArray, List.set_cons_succ, List.set_cons_zero]
    replace HT := hide hS0.1
    replace LL := hide hS0.2
    clear hS0
    have HR := hide ((unhide HT).rows r (T.find_mem hf).1)
    unfold pv
    go_wp2_with (first | go_skip | ((refine rd (by rfl) (ex_loadN (vs := r.d.cs) 38 18 row39 siz39 rfl rfl (unhide HR) rfl rfl) ?_); simp only [Act.put, List.setIfInBounds_toArray, List.set_cons_succ, List.set_cons_zero]) | ((refine st (vs := r.d.cs) 1 38 (by rfl) rfl rfl rfl rfl (by simp [DD.cs, VV.cs, Value.oneCell']) siz39 (unhide LL) rfl (by simp [dcs_length]) (Or.inr (unhide hB2)) ?_); intro w3 L3 hf3 hs3; replace LL := hide L3; clear L3 hf3 hs3; simp only [Act.put, List.setIfInBounds_toArray, List.set_cons_succ, List.set_cons_zero]))
    refine ret_ct (d := r.d) (r := 4) (q := 5) (b := w.heap.size + 1) rfl rfl rfl rfl ((unhide LL).get 1 rfl) rfl ⟨?_, (unhide LL).fr.below⟩
    unfold getD
    rw [hf]
    rfl
section
variable {md : Region.Mode} {ops : Array Oper} {rest : List Oper} {Q : Exit → Act → World → Prop} {S : World → Prop} {w w0 : World} {fuel : Nat} {listed : Array Bool} {a : Act} {o : Oper}
theorem own_form {w : World} {base e size n : Nat} {v : Value} {xs : List Value} (h : w.ownsRow base e size v n xs) : ∃ A c, v = .slice A n c := by
  rcases h.2 with ⟨rfl, rfl⟩ | ⟨g, cap, cur, rfl, -⟩
  · exact ⟨_, _, rfl⟩
  · exact ⟨_, _, rfl⟩
/-- append onto one's own row, of any type. -/
theorem append_any {t e : TypeId} {size bytes n m c B base : Nat} {z v : Value} {xs news : List Value} {s x : Operand} (hgd : o.guard = none) (ho : o.op = .call { callee := .builtin .append, args := #[s, x], argTypes := #[t, t] }) (hs : a.eval s = v) (hx : a.eval x = .slice (some ⟨B, 0, none⟩) m c)
    (ht : Tryz.prog.underlying t = some (.slice e)) (hi : (Tryz.prog.info? e).map (fun i => (i.zero, i.size, i.bytes)) = some (some z, size, bytes)) (hz : z.cells.size = size) (hsz : 0 < size) (hown : w.ownsRow base e size v n xs) (hB : Holds w B news) (hl : news.length = m * size) (h1 : ∀ u ∈ news, u.oneCell' = true)
    (hn : n + m ≤ 4000000) (hby : bytes ≤ 10000) (hbase : base ≤ w.heap.size)
    (h : ∀ A c w', w'.ownsRow base e size (.slice A (n + m) c) (n + m) (xs ++ news) → w.grownBy w' v.ownBlock → Fresh w v (.slice A (n + m) c) → wpList Tryz.prog ops Q rest (a.put o.dst (.slice A (n + m) c)) w') : wpList Tryz.prog ops Q (o :: rest) a w := by
  obtain ⟨i0, hi, hz0, hz1, hz2⟩ := info_parts hi
  refine wpList_plain hgd fun K hK => ?_
  obtain ⟨v', w', hrun, h2, h3, h4⟩ := append_fresh w base t o.type e i0 _ size bytes ht hi hz0 hz1 hz2 hz hsz v n xs hown ⟨B, 0, none⟩ m c news hl (fun j u hj => by
    rw [Addr.add_mid]
    exact hB.2 j u hj) h1 (by unfold maxLen; omega) (Nat.le_trans (Nat.mul_le_mul hn hby) (by decide)) hbase
  obtain ⟨A', c', rfl⟩ := own_form h2
  have hP := hK _ _ (h A' c' w' h2 h3 h4)
  unfold Oper.wp
  simp [execOp, ho, resolve, invoke, builtin, hs, hx, hrun, Result.andThen]
  exact hP
theorem fold_set (off : Nat) : ∀ (vs : List Value) (j : Nat) (z : Array Value), off + j + vs.length ≤ z.size →
    ((vs.zipIdx j).foldl (fun cs (c, j) => cs.setIfInBounds (off + j) c) z).toList = z.toList.take (off + j) ++ vs ++ z.toList.drop (off + j + vs.length)
  | [], j, z, h => by simp
  | v :: vs, j, z, h => by
    simp only [List.length_cons] at h
    rw [List.zipIdx_cons, List.foldl_cons, fold_set off vs (j + 1) (z.setIfInBounds (off + j) v) (by simp; omega)]
    have hj : off + j < z.toList.length := by simp; omega
    have e1 : (z.setIfInBounds (off + j) v).toList = z.toList.set (off + j) v := by simp
    rw [e1, show off + (j + 1) = off + j + 1 by omega]
    rw [List.take_set, List.drop_set_of_lt (by omega), List.take_succ_eq_append_getElem hj]
    simp only [List.length_cons]
    rw [show off + j + 1 + vs.length = off + j + (vs.length + 1) by omega]
    rw [List.set_append_right _ _ (by simp; omega)]
    have e2 : off + j - (z.toList.take (off + j)).length = 0 := by simp; omega
    rw [e2]
    simp
theorem fill_one (size : Nat) (z : Array Value) (v : Value) (hz : z.size = size) (hv : v.cells.size = size) : Instr.fill (fun i => some (i * size, size)) z [(0, v)] = some v.cells := by
  have e := fold_set 0 v.cells.toList 0 z (by simp; omega)
  unfold Instr.fill
  simp only [Nat.zero_mul]
  rw [if_neg (by simp; omega)]
  unfold Instr.fill
  congr 1
  apply Array.toList_inj.1
  have e3 : v.cells.zipIdx.foldl (fun cs (c, j) => cs.setIfInBounds (0 + j) c) z = (v.cells.toList.zipIdx 0).foldl (fun cs (c, j) => cs.setIfInBounds (0 + j) c) z := by
    rw [← Array.foldl_toList, Array.toList_zipIdx]
  rw [e3, e]
  simp
  omega
/-- A slice of one. -/
theorem build_any {t e : TypeId} {size bytes : Nat} {z v : Value} {cs : List Value} {x : Operand} {E : List Nat} {L : List (Nat × List Value)} (hw : Region.wanted o (yielded ops a.tmps) = true) (ho : o.op = .buildSlice t 1 #[(0, x)]) (hx : a.eval x = v)
    (ht : Tryz.prog.underlying t = some (.slice e)) (hi : (Tryz.prog.info? e).map (fun i => (i.zero, i.size, i.bytes)) = some (some z, size, bytes)) (hs1 : size ≤ 100) (hv : v.cells.toList = cs) (hc : cs.length = size) (h0 : 0 < size) (hL : Hq w0 w E L)
    (h : ∀ X B, B = w.heap.size → Hq w0 X E (L ++ [(B, cs)]) → Below w.heap.size w X → wpList Tryz.prog ops Q rest (a.put o.dst (.slice (some ⟨B, 0, none⟩) 1 1)) X) : wpList Tryz.prog ops Q (o :: rest) a w := by
  refine BigFrame.wpList_want hw fun K hK => ?_
  obtain ⟨i0, hi, hz0, hz1, hz2⟩ := info_parts hi
  have ev : v.cells = cs.toArray := by rw [← hv]
  have es : v.cells.size = size := by rw [ev]; simpa using hc
  refine wp_buildSlice t e 1 _ ho cs.toArray i0 _ ht hi hz0 (by rw [hz1]; omega) (by rw [hz1]; omega) ?_ (hK _ _ (h _ _ rfl (hL.new cs e (by omega)) ((Below.refl _ _).alloc (Nat.le_refl _) _)))
  rw [hz1, ← ev]
  simp only [List.map_toArray, List.map_cons, List.map_nil, hx]
  exact fill_one size _ v (by simp) es
/-! Operations that change the world, in a region that draws its order. -/
theorem gval (i : Nat) (dst : Option Tmp) {V : Value} {X : World} {rs : List Nat} (hi : ops[i]? = some o) (hd : o.dst = dst) (hw : Region.wanted o (yielded ops a.tmps) = true) (he : (execOp a.eval o).run Tryz.prog w = .ok (.value V) X) (hSX : S X)
    (h : wpAnyH Tryz.prog md ops Q S fuel (listed.setIfInBounds i true) (a.put dst V) X) (hs : AllReadyH Tryz.prog md ops Q S fuel listed a w rs) : AllReadyH Tryz.prog md ops Q S fuel listed a w (i :: rs) := by
  subst hd
  refine AllReadyH.cons hi (fun K hK => ?_) hs
  rw [if_pos hw]
  unfold Oper.wp
  rw [he]
  exact hK.out _ _ hSX (fun _ => h)
theorem gskp (i : Nat) (dst : Option Tmp) {X : World} {rs : List Nat} (hi : ops[i]? = some o) (hd : o.dst = dst) (hw : Region.wanted o (yielded ops a.tmps) = true) (he : (execOp a.eval o).run Tryz.prog w = .ok .skip X) (hSX : S X)
    (h : wpAnyH Tryz.prog md ops Q S fuel (listed.setIfInBounds i true) (a.put dst undef) X) (hs : AllReadyH Tryz.prog md ops Q S fuel listed a w rs) : AllReadyH Tryz.prog md ops Q S fuel listed a w (i :: rs) := by
  subst hd
  refine AllReadyH.cons hi (fun K hK => ?_) hs
  rw [if_pos hw]
  unfold Oper.wp
  rw [he]
  exact hK.out _ _ hSX (fun _ => h)
theorem ex_box {v : Value} {x : Operand} (t : TypeId) (cs : List Value) (ho : o.op = .box t x) (hx : a.eval x = v) (hv : v.cells.toList = cs) : (execOp a.eval o).run Tryz.prog w = .ok (.value (.pointer (some ⟨w.heap.size, 0, none⟩))) (w.alloc (Obj.cells cs.toArray t)) := by
  have e : v.cells = cs.toArray := by rw [← hv]
  have e2 : (Instr.box t v).run Tryz.prog w = .ok (.pointer (some ⟨w.heap.size, 0, none⟩)) (w.alloc (Obj.cells cs.toArray t)) := by rw [← e]; rfl
  unfold execOp
  simp only [ho, hx]
  simp [e2]
theorem ex_upd {m x y : Operand} {b n sz r : Nat} {F : KK → Option Nat} {k : KK} (ho : o.op = .mapUpdate 141 m x y) (hm : a.eval m = .map (some b)) (hx : a.eval x = k.agg) (hy : a.eval y = pv (some r)) (h : MapIs w b n sz F) (hk : OkK k) (hn : n < maxLen) :
    ∃ X, (execOp a.eval o).run Tryz.prog w = .ok .skip X ∧ MapIs X b (n + 1) (if (F k).isSome then sz else sz + 1) (putF F k (some r)) ∧ Fr w X [b] := by
  obtain ⟨X, h1, h2, h3⟩ := h.store hk hn r
  refine ⟨X, ?_, h2, Fr.grown h3.grown⟩
  unfold execOp
  simp only [ho, hm, hx, hy]
  simp [h1]
end
theorem rise_len : ∀ (l : List RR) (lo hi : Nat), l.Pairwise (fun a b => a.n < b.n) → (∀ r ∈ l, lo ≤ r.n ∧ r.n ≤ hi) → lo ≤ hi + 1 → lo + l.length ≤ hi + 1
  | [], lo, hi, _, _, h => by simpa using h
  | r :: l, lo, hi, hp, hr, h => by
    obtain ⟨h1, h2⟩ := List.pairwise_cons.1 hp
    have h3 := hr r (by simp)
    have := rise_len l (r.n + 1) hi h2 (fun q hq => ⟨h1 q hq, (hr q (by simp [hq])).2⟩) (by omega)
    simp only [List.length_cons]
    omega
theorem TT.Is.len {T : TT} {W : World} (h : T.Is W) : T.rows.length ≤ T.last := by
  have := rise_len T.rows 1 T.last h.rise h.num (by omega)
  omega
def TT.added (T : TT) (rv : Value) (R : Nat) (k : KK) (d : DD) : TT := ⟨T.t, T.m, rv, T.rows ++ [⟨R, k, d, T.last + 1, false⟩], T.last + 1⟩
theorem TT.added_live (T : TT) (rv : Value) (R : Nat) (k : KK) (d : DD) : (T.added rv R k d).live = T.live ++ [⟨R, k, d, T.last + 1, false⟩] := by
  simp [TT.added, TT.live]
theorem TT.added_find (T : TT) (rv : Value) (R : Nat) (k : KK) (d : DD) (hn : T.find k = none) : (fun q => ((T.added rv R k d).find q).map (·.b)) = putF (fun q => (T.find q).map (·.b)) k (some R) := by
  funext q
  unfold TT.find at *
  rw [TT.added_live, List.find?_append]
  by_cases e : q = k
  · subst e
    rw [hn, putF_same]
    simp
  · rw [putF_other e]
    have e2 : ([⟨R, k, d, T.last + 1, false⟩] : List RR).find? (fun r => decide (r.k = q)) = none := by
      simp
      exact fun h => e h.symm
    rw [e2]
    simp
/-- What a table is besides its own struct. -/
structure TT.Mid (T : TT) (W : World) : Prop where
  map : MapIs W T.m T.last T.live.length (fun k => (T.find k).map (·.b))
  own : OwnP W T.rv (T.rows.map (·.b))
  rows : ∀ r ∈ T.rows, Holds W r.b r.cs
theorem TT.Is.mid {T : TT} {W : World} (h : T.Is W) : T.Mid W := ⟨h.map, h.own, h.rows⟩
/-- A block of a table's that is not its struct. -/
def TT.Part (T : TT) (b : Nat) : Prop := b = T.m ∨ T.rv.ownBlock = some b ∨ b ∈ T.rows.map (·.b)
theorem TT.Part.mem {T : TT} {b : Nat} (h : T.Part b) : b ∈ T.blocks := by
  simp only [TT.blocks, List.mem_cons, List.mem_append]
  rcases h with h | h | h
  · exact .inr (.inl h)
  · exact .inr (.inr (.inl (by rw [h]; simp)))
  · exact .inr (.inr (.inr h))
theorem TT.Part.ne {T : TT} {b : Nat} (h : T.Part b) (hnd : T.blocks.Nodup) : b ≠ T.t := by
  intro e
  subst e
  have h1 := (List.nodup_cons.1 hnd).1
  apply h1
  have := h.mem
  simp only [List.mem_cons, List.mem_append]
  rcases h with h | h | h
  · exact .inl h
  · exact .inr (.inl (by rw [h]; simp))
  · exact .inr (.inr h)
theorem TT.Mid.block {T : TT} {W W' : World} (h : T.Mid W) (he : ∀ b, T.Part b → W'.heap[b]? = W.heap[b]?) : T.Mid W' :=
  ⟨h.map.block (he _ (.inl rfl)), h.own.block (fun g hg => he g (.inr (.inl hg))), fun r hr => (h.rows r hr).block (he _ (.inr (.inr (List.mem_map.2 ⟨r, hr, rfl⟩))))⟩
theorem TT.Mid.lt {T : TT} {W : World} (h : T.Mid W) : ∀ b, T.Part b → b < W.heap.size := by
  intro b hb
  rcases hb with rfl | hb | hb
  · exact h.map.lt
  · exact h.own.lt b hb
  · obtain ⟨r, hr, rfl⟩ := List.mem_map.1 hb
    exact (h.rows r hr).lt (by simp [rcs_length])
theorem TT.Mid.fr {T : TT} {W W' : World} {E : List Nat} (h : T.Mid W) (hf : Fr W W' E) (hE : ∀ b, T.Part b → b ∉ E) : T.Mid W' := h.block (fun b hb => hf.block b (h.lt b hb) (hE b hb))
theorem TT.Mid.on {T : TT} {W W' : World} (h : T.Mid W) (hb : Below W.heap.size W W') : T.Mid W' := h.block (fun b hb' => hb.block b (h.lt b hb'))
theorem TT.Mid.drew {T : TT} {W : World} (h : T.Mid W) : T.Mid W.drew := h.block (fun _ _ => rfl)
theorem TT.Is.added {T : TT} {w X : World} {rv : Value} {R : Nat} {k : KK} {d : DD} (hT : T.Is w) (hn : T.find k = none) (hg : goodK k = true)
    (tab : Holds X T.t [.map (some T.m), rv, .int .u64 ((T.last + 1 : Nat) : Int)]) (map : MapIs X T.m (T.last + 1) (T.live.length + 1) (putF (fun q => (T.find q).map (·.b)) k (some R))) (own : OwnP X rv (T.rows.map (·.b) ++ [R]))
    (rows : ∀ r ∈ T.rows, Holds X r.b r.cs) (new : Holds X R (RR.mk R k d (T.last + 1) false).cs) (hR : w.heap.size ≤ R) (hrv : ∀ g, rv.ownBlock = some g → (T.rv.ownBlock = some g ∨ w.heap.size ≤ g) ∧ g ≠ R) : (T.added rv R k d).Is X := by
  have hlt := hT.lt
  refine ⟨tab, ?_, ?_, ?_, ?_, ?_, ?_, ?_, ?_⟩
  · rw [TT.added_find T rv R k d hn, TT.added_live, List.length_append]
    exact map
  · simpa [TT.added] using own
  · intro r hr
    rcases List.mem_append.1 (show r ∈ T.rows ++ [_] from hr) with hr | hr
    · exact rows r hr
    · obtain rfl : r = ⟨R, k, d, T.last + 1, false⟩ := by simpa using hr
      exact new
  · have hnd := hT.nd
    unfold TT.blocks TT.added
    simp only [TT.blocks, List.nodup_cons, List.mem_cons, List.mem_append, List.nodup_append, List.map_append, List.map_cons, List.map_nil, not_or] at hnd ⊢
    obtain ⟨⟨h1, h2, h3⟩, ⟨h4, h5⟩, h6, h7, h8⟩ := hnd
    have l1 : T.t < w.heap.size := hlt _ (by simp [TT.blocks])
    have l2 : T.m < w.heap.size := hlt _ (by simp [TT.blocks])
    have l3 : ∀ b ∈ T.rows.map (·.b), b < w.heap.size := fun b hb => hlt _ (TT.Part.mem (.inr (.inr hb)))
    have hrv' : ∀ b ∈ rv.ownBlock.toList, (T.rv.ownBlock = some b ∨ w.heap.size ≤ b) ∧ b ≠ R := fun b hb => hrv b (by simpa using hb)
    refine ⟨⟨h1, fun hb => ?_, h3, ?_⟩, ⟨fun hb => ?_, h5, ?_⟩, ?_, ⟨h7, by simp, ?_⟩, ?_⟩
    · rcases (hrv' _ hb).1 with h | h
      · exact h2 (by rw [h]; simp)
      · omega
    · simp; omega
    · rcases (hrv' _ hb).1 with h | h
      · exact h4 (by rw [h]; simp)
      · omega
    · simp; omega
    · cases rv.ownBlock <;> simp
    · intro a ha b hb
      have := l3 a ha
      obtain rfl : b = R := by simpa using hb
      omega
    · intro a ha b hb
      rcases hb with hb | hb
      · rcases (hrv' _ ha).1 with h | h
        · exact h8 a (by rw [h]; simp) b hb
        · have := l3 b hb; omega
      · obtain rfl : b = R := by simpa using hb
        exact (hrv' _ ha).2
  · show (T.rows ++ [_]).Pairwise _
    rw [List.pairwise_append]
    refine ⟨hT.rise, by simp, fun a ha b hb => ?_⟩
    obtain rfl : b = ⟨R, k, d, T.last + 1, false⟩ := by simpa using hb
    have := (hT.num a ha).2
    show a.n < T.last + 1
    omega
  · intro r hr
    rcases List.mem_append.1 (show r ∈ T.rows ++ [_] from hr) with hr | hr
    · have := hT.num r hr
      show 1 ≤ r.n ∧ r.n ≤ T.last + 1
      omega
    · obtain rfl : r = ⟨R, k, d, T.last + 1, false⟩ := by simpa using hr
      show 1 ≤ T.last + 1 ∧ T.last + 1 ≤ T.last + 1
      omega
  · rw [TT.added_live, List.pairwise_append]
    refine ⟨hT.keys, by simp, fun a ha b hb => ?_⟩
    obtain rfl : b = ⟨R, k, d, T.last + 1, false⟩ := by simpa using hb
    have := List.find?_eq_none.1 hn a ha
    simpa using this
  · rw [TT.added_live]
    intro r hr
    rcases List.mem_append.1 hr with hr | hr
    · exact hT.good r hr
    · obtain rfl : r = ⟨R, k, d, T.last + 1, false⟩ := by simpa using hr
      exact hg
theorem rv_new {T : TT} {w X : World} {v : Value} {R : Nat} (hT : T.Is w) (hf : Fresh X T.rv v) (hR : w.heap.size ≤ R) (hR2 : R < X.heap.size) (hs : w.heap.size ≤ X.heap.size) : ∀ g, v.ownBlock = some g → (T.rv.ownBlock = some g ∨ w.heap.size ≤ g) ∧ g ≠ R := by
  intro g hg
  rcases hf with h | h
  · rw [hg] at h
    have := hT.lt g (TT.Part.mem (.inr (.inl h.symm)))
    exact ⟨.inl h.symm, by omega⟩
  · rw [hg] at h
    have := Option.some.inj h
    exact ⟨.inr (by omega), by omega⟩
theorem not_rv {T : TT} {w : World} (hT : T.Is w) {b : Nat} (hb : b = T.t ∨ w.heap.size ≤ b) : b ∉ T.rv.ownBlock.toList := by
  intro hm
  have hp : T.Part b := .inr (.inl (by simpa using hm))
  rcases hb with hb | hb
  · exact hp.ne hT.nd hb
  · have := hT.lt b hp.mem; omega
theorem not_m {T : TT} {w : World} (hT : T.Is w) {b : Nat} (hb : b = T.t ∨ w.heap.size ≤ b) : b ∉ [T.m] := by
  intro hm
  have hp : T.Part b := .inl (by simpa using hm)
  rcases hb with hb | hb
  · exact hp.ne hT.nd hb
  · have := hT.lt b hp.mem; omega
theorem four {T : TT} {n R B : Nat} {c1 c2 c3 c4 : List Value} {q : Nat × List Value} (hq : q ∈ [(T.t, c1), (n, c2), (R, c3), (B, c4)]) (hR : n ≤ R) (hB : n ≤ B) : q.1 = T.t ∨ n ≤ q.1 := by
  simp only [List.mem_cons, List.not_mem_nil, or_false] at hq
  rcases hq with rfl | rfl | rfl | rfl
  · exact .inl rfl
  · exact .inr (Nat.le_refl _)
  · exact .inr hR
  · exact .inr hB
/-- A table in the midst of add. -/
def TT.Mid2 (T : TT) (v : Value) (R : Nat) (W : World) : Prop := MapIs W T.m T.last T.live.length (fun k => (T.find k).map (·.b)) ∧ OwnP W v (T.rows.map (·.b) ++ [R]) ∧ ∀ r ∈ T.rows, Holds W r.b r.cs
theorem TT.nd_rv {T : TT} (hnd : T.blocks.Nodup) : (∀ b, T.rv.ownBlock = some b → b ≠ T.m ∧ b ∉ T.rows.map (·.b)) := by
  intro b hb
  simp only [TT.blocks, List.nodup_cons, List.mem_cons, List.mem_append, List.nodup_append, not_or] at hnd
  obtain ⟨⟨h1, h2, h3⟩, ⟨h4, h5⟩, h6, h7, h8⟩ := hnd
  refine ⟨fun e => h4 (by rw [← e, hb]; simp), fun hm => h8 b (by rw [hb]; simp) b hm rfl⟩
theorem TT.Mid.app {T : TT} {W W' : World} {v : Value} {R : Nat} (h : T.Mid W) (hnd : T.blocks.Nodup) (hf : Fr W W' T.rv.ownBlock.toList) (ho : W'.ownsRow 0 168 1 v ((T.rows.map (·.b)).length + 1) (ptrs (T.rows.map (·.b)) ++ [.pointer (some ⟨R, 0, none⟩)])) : T.Mid2 v R W' := by
  have hn := TT.nd_rv hnd
  refine ⟨h.map.block (hf.block _ (h.lt _ (.inl rfl)) (fun hm => (hn T.m (by simpa using hm)).1 rfl)), ?_, fun r hr => (h.rows r hr).block (hf.block _ (h.lt _ (.inr (.inr (List.mem_map.2 ⟨r, hr, rfl⟩)))) (fun hm => (hn r.b (by simpa using hm)).2 (List.mem_map.2 ⟨r, hr, rfl⟩)))⟩
  unfold OwnP
  rw [List.length_append]
  simpa [ptrs] using ho
theorem TT.Mid2.block {T : TT} {v : Value} {R : Nat} {W W' : World} (h : T.Mid2 v R W) (he : ∀ b, (b = T.m ∨ v.ownBlock = some b ∨ b ∈ T.rows.map (·.b)) → W'.heap[b]? = W.heap[b]?) : T.Mid2 v R W' :=
  ⟨h.1.block (he _ (.inl rfl)), h.2.1.block (fun g hg => he g (.inr (.inl hg))), fun r hr => (h.2.2 r hr).block (he _ (.inr (.inr (List.mem_map.2 ⟨r, hr, rfl⟩))))⟩
theorem TT.Mid2.drew {T : TT} {v : Value} {R : Nat} {W : World} (h : T.Mid2 v R W) : T.Mid2 v R W.drew := h.block (fun _ _ => rfl)
theorem TT.Mid2.lt {T : TT} {v : Value} {R : Nat} {W : World} (h : T.Mid2 v R W) : ∀ b, (b = T.m ∨ v.ownBlock = some b ∨ b ∈ T.rows.map (·.b)) → b < W.heap.size := by
  intro b hb
  rcases hb with rfl | hb | hb
  · exact h.1.lt
  · exact h.2.1.lt b hb
  · obtain ⟨r, hr, rfl⟩ := List.mem_map.1 hb
    exact (h.2.2 r hr).lt (by simp [rcs_length])
theorem TT.Mid2.fr {T : TT} {v : Value} {R : Nat} {w W W' : World} (h : T.Mid2 v R W) (hf : Fr W W' [T.t]) (hT : T.Is w) (hv : ∀ g, v.ownBlock = some g → (T.rv.ownBlock = some g ∨ w.heap.size ≤ g) ∧ g ≠ R) : T.Mid2 v R W' := by
  refine h.block (fun b hb => hf.block b (h.lt b hb) ?_)
  intro hm
  obtain rfl : b = T.t := by simpa using hm
  rcases hb with hb | hb | hb
  · exact TT.Part.ne (.inl hb) hT.nd rfl
  · rcases (hv _ hb).1 with h1 | h1
    · exact TT.Part.ne (.inr (.inl h1)) hT.nd rfl
    · have := hT.lt T.t (by simp [TT.blocks]); omega
  · exact TT.Part.ne (.inr (.inr hb)) hT.nd rfl
theorem TT.Mid2.fin {T : TT} {v : Value} {R : Nat} {w W X : World} (h : T.Mid2 v R W) (hf : Fr W X [T.m]) (hT : T.Is w) (hv : ∀ g, v.ownBlock = some g → (T.rv.ownBlock = some g ∨ w.heap.size ≤ g) ∧ g ≠ R) : OwnP X v (T.rows.map (·.b) ++ [R]) ∧ ∀ r ∈ T.rows, Holds X r.b r.cs := by
  have hn := TT.nd_rv hT.nd
  have hm : T.m ∉ T.rows.map (·.b) := by
    have hnd := hT.nd
    simp only [TT.blocks, List.nodup_cons, List.mem_cons, List.mem_append, not_or] at hnd
    exact hnd.2.1.2
  refine ⟨h.2.1.block (fun g hg => hf.block g (h.lt g (.inr (.inl hg))) ?_), fun r hr => (h.2.2 r hr).block (hf.block r.b (h.lt _ (.inr (.inr (List.mem_map.2 ⟨r, hr, rfl⟩)))) ?_)⟩
  · intro e
    obtain rfl : g = T.m := by simpa using e
    rcases (hv _ hg).1 with h1 | h1
    · exact (hn _ h1).1 rfl
    · have := hT.lt T.m (by simp [TT.blocks]); omega
  · intro e
    have e2 : r.b = T.m := by simpa using e
    exact hm (e2 ▸ List.mem_map.2 ⟨r, hr, rfl⟩)
theorem MapIs.drew {w : World} {b n sz : Nat} {F : KK → Option Nat} (h : MapIs w b n sz F) : MapIs w.drew b n sz F := h.block rfl
theorem gupd {md : Region.Mode} {ops : Array Oper} {Q : Exit → Act → World → Prop} {S : World → Prop} {w : World} {fuel : Nat} {listed : Array Bool} {a : Act} {o : Oper} (i : Nat) {m x y : Operand} {b n sz r : Nat} {F : KK → Option Nat} {k : KK} {rs : List Nat} (hi : ops[i]? = some o) (hd : o.dst = none) (hw : Region.wanted o (yielded ops a.tmps) = true)
    (ho : o.op = .mapUpdate 141 m x y) (hm : a.eval m = .map (some b)) (hx : a.eval x = k.agg) (hy : a.eval y = pv (some r)) (h : MapIs w b n sz F) (hk : OkK k) (hn : n < maxLen) (hon : ∀ X, Fr w X [b] → S X)
    (hh : ∀ X, MapIs X b (n + 1) (if (F k).isSome then sz else sz + 1) (putF F k (some r)) → Fr w X [b] → wpAnyH Tryz.prog md ops Q S fuel (listed.setIfInBounds i true) (a.put none undef) X) (hs : AllReadyH Tryz.prog md ops Q S fuel listed a w rs) : AllReadyH Tryz.prog md ops Q S fuel listed a w (i :: rs) := by
  obtain ⟨X, h1, h2, h3⟩ := ex_upd ho hm hx hy h hk hn
  exact gskp i none hi hd hw h1 (hon X h3) (hh X h2 h3) hs
theorem info74 : (Tryz.prog.info? 168).map (fun i => (i.zero, i.size, i.bytes)) = some (some (.pointer none), 1, 8) := by kernel_rfl
theorem siz71 : (Tryz.prog.info? 90).map (·.size) = some 1 := by kernel_rfl
theorem siz70 : (Tryz.prog.info? 142).map (·.size) = some 1 := by kernel_rfl
theorem ex_addu {o : Oper} {a : Act} {w : World} {x : Operand} {n : Nat} (ho : o.op = .binOp .add 90 x (.const (.int .u64 1)) 90) (hx : a.eval x = .int .u64 (n : Nat)) (hc : a.eval (.const (.int .u64 1)) = .int .u64 1) (hn : n < 4000000) : (execOp a.eval o).run Tryz.prog w = .ok (.value (.int .u64 ((n : Int) + 1))) w := by
  unfold execOp
  simp only [ho, hx, hc]
  have e : IntKind.u64.wrap ((n : Int) + 1) = (n : Int) + 1 := by
    rw [IntKind.wrap_u64]
    omega
  simp [go_sem, eqGuard, Tryz.underlying90, e]
theorem add34 (T : TT) (k : KK) (d : DD) (w : World) (hT : T.Is w) (hk : OkK k) (hg : goodK k = true) (hn : T.find k = none) (hl : T.last < 4000000) : Calls Tryz.prog 138 #[.pointer (some ⟨T.t, 0, none⟩), .agg (k.cs ++ d.cs).toArray] w fun e w' => e = .returned (.tuple #[]) ∧ ∃ rv R, (T.added rv R k d).Is w' ∧ Fr w w' T.blocks ∧ w.heap.size ≤ R ∧ (∀ g, rv.ownBlock = some g → T.rv.ownBlock = some g ∨ w.heap.size ≤ g) := by
  have hlen := hT.len
  have hlt := hT.lt
  have LL := hide (((Hq.nil w T.blocks).add hT.tab (Nat.succ_pos _) (fun q hq => by cases hq)).new (k.cs ++ d.cs) 53 (Nat.succ_pos _))
  have MM := hide (hT.mid.on ((Below.refl _ _).alloc (Nat.le_refl _) (Obj.cells (k.cs ++ d.cs).toArray 53)))
  have hl2 : Hid (T.last < 4000000) := hide hl
  have HH := hide hT
  have hnd := hide hT.nd
  have hlen2 := hide hlen
  have hlt2 := hide hlt
  have hk2 := hide hk
  have hn2 := hide hn
  have hg2 := hide hg
  clear hT hlen hlt hl hk hn hg
  go_enter Tryz.func138, Tryz.ntmps138
  go_wp2_with (first | go_skip | ((refine rd (by rfl) (ex_load1 90 Tryz.isAgg90 rfl rfl ((unhide LL).get 0 rfl) rfl) ?_); simp only [Act.put, List.setIfInBounds_toArray, List.set_cons_succ, List.set_cons_zero]) | ((refine rd (by rfl) (ex_addu rfl rfl rfl (unhide hl2)) ?_); simp only [Act.put, List.setIfInBounds_toArray, List.set_cons_succ, List.set_cons_zero]) | ((refine st (vs := [.int .u64 ((T.last : Int) + 1)]) 0 90 (by rfl) rfl rfl rfl rfl (by simp [Value.oneCell']) siz71 (unhide LL) rfl (by simp [TT.cs, cput]) (Or.inl (List.mem_cons_self ..)) ?_); intro w3 L3 hf3 hs3; replace LL := hide L3; replace MM := hide ((unhide MM).fr hf3 (fun b hb => by simpa using hb.ne (unhide hnd))); clear L3 hf3 hs3; simp only [Act.put, List.setIfInBounds_toArray, List.set_cons_succ, List.set_cons_zero]))
  obtain ⟨R, hRe⟩ : ∃ R, R = w3.drew.heap.size := ⟨_, rfl⟩
  refine wp_region_held_drew (P := Tryz.prog) (S := fun X => Hq w X T.blocks [(T.t, [.map (some T.m), T.rv, .int .u64 ((T.last : Int) + 1)]), (w.heap.size, (k.cs ++ d.cs))] ∧ T.Mid X) (by kernel_rfl) ⟨(unhide LL).drew, (unhide MM).drew⟩ (fun hS0 => ?_)
  refine gsem 0 (some 12) (.agg (k.cs ++ d.cs).toArray) rfl (by kernel_rfl) (by kernel_rfl) (by kernel_rfl) (fun _ _ _ h => h) (by kernel_rfl) (by kernel_rfl) (fun X hX => ex_loadN (vs := (k.cs ++ d.cs)) 53 20 row58 siz58 rfl rfl (hX.1.get 1 rfl) rfl rfl) hS0 ?_
  simp only [Act.put, List.setIfInBounds_toArray, List.set_cons_succ, List.set_cons_zero]
  refine gsem 1 (some 13) (.pointer (some ⟨T.t, 0, none⟩)) rfl (by kernel_rfl) (by kernel_rfl) (by kernel_rfl) (fun _ _ _ h => h) (by kernel_rfl) (by kernel_rfl) (fun _ _ => by kernel_rfl) hS0 ?_
  simp only [Act.put, List.setIfInBounds_toArray, List.set_cons_succ, List.set_cons_zero]
  refine gsem 2 (some 14) (.pointer (some ⟨T.t, 0, none⟩)) rfl (by kernel_rfl) (by kernel_rfl) (by kernel_rfl) (fun _ _ _ h => h) (by kernel_rfl) (by kernel_rfl) (fun _ _ => by kernel_rfl) hS0 ?_
  simp only [Act.put, List.setIfInBounds_toArray, List.set_cons_succ, List.set_cons_zero]
  refine gsem 3 (some 15) (.pointer (some ⟨T.t, 2, none⟩)) rfl (by kernel_rfl) (by kernel_rfl) (by kernel_rfl) (fun _ _ _ h => h) (by kernel_rfl) (by kernel_rfl) (fun _ _ => by kernel_rfl) hS0 ?_
  simp only [Act.put, List.setIfInBounds_toArray, List.set_cons_succ, List.set_cons_zero]
  refine gsem 4 (some 16) (.int .u64 ((T.last : Int) + 1)) rfl (by kernel_rfl) (by kernel_rfl) (by kernel_rfl) (fun _ _ _ h => h) (by kernel_rfl) (by kernel_rfl) (fun X hX => ex_load1 90 Tryz.isAgg90 rfl rfl (hX.1.get 0 rfl) rfl) hS0 ?_
  simp only [Act.put, List.setIfInBounds_toArray, List.set_cons_succ, List.set_cons_zero]
  refine gsem 5 (some 17) (.agg (RR.mk R k d (T.last + 1) false).cs.toArray) rfl (by kernel_rfl) (by kernel_rfl) (by kernel_rfl) (fun _ _ _ h => h) (by kernel_rfl) (by kernel_rfl) (fun _ _ => by kernel_rfl) hS0 ?_
  simp only [Act.put, List.setIfInBounds_toArray, List.set_cons_succ, List.set_cons_zero]
  have bl := (Below.refl w3.drew.heap.size w3.drew).alloc (Nat.le_refl _) (Obj.cells (RR.mk R k d (T.last + 1) false).cs.toArray 171)
  have L2 := hS0.1.new (RR.mk R k d (T.last + 1) false).cs 171 (Nat.succ_pos _)
  refine wpAnyH_ready (rs := [6]) (by kernel_rfl) (by simp) (gval 6 (some 18) rfl (by kernel_rfl) (by kernel_rfl) (ex_box 171 (RR.mk R k d (T.last + 1) false).cs rfl rfl rfl) (And.intro (hS0.1.on bl) (hS0.2.on bl)) ?_ AllReadyH.nil)
  have hR := hide (Nat.le_trans hS0.1.fr.size (Nat.le_of_eq hRe.symm))
  replace hS0 := And.intro (hS0.1.on bl) (hS0.2.on bl)
  simp only [Act.put, List.setIfInBounds_toArray, List.set_cons_succ, List.set_cons_zero]
  rw [← hRe] at L2 ⊢
  clear bl
  generalize w3.drew.alloc (Obj.cells (RR.mk R k d (T.last + 1) false).cs.toArray 171) = w4 at *
  clear hRe
  refine gsem 7 (some 4) (.pointer (some ⟨R, 0, none⟩)) rfl (by kernel_rfl) (by kernel_rfl) (by kernel_rfl) (fun _ _ _ h => h) (by kernel_rfl) (by kernel_rfl) (fun _ _ => by kernel_rfl) hS0 ?_
  simp only [Act.put, List.setIfInBounds_toArray, List.set_cons_succ, List.set_cons_zero]
  refine wpAnyH_done (by kernel_rfl) ?_ _
  try simp only [Act.put, List.setIfInBounds_toArray, List.set_cons_succ, List.set_cons_zero]
  replace MM := hide hS0.2
  replace LL := hide L2
  clear hS0 L2
  go_wp2_with (first | go_skip | ((refine rd (by rfl) (ex_load1 142 Tryz.isAgg142 rfl rfl ((unhide LL).get 0 rfl) rfl) ?_); simp only [Act.put, List.setIfInBounds_toArray, List.set_cons_succ, List.set_cons_zero]) | ((refine build_any (t := 142) (e := 168) (size := 1) (bytes := 8) (z := .pointer none) (cs := [.pointer (some ⟨R, 0, none⟩)]) (by rfl) rfl rfl Tryz.underlying142 info74 (by decide) rfl rfl (by decide) (unhide LL) ?_); intro w5 B5 hB5 L5 hb5; have hB5 := hide (Nat.le_trans (unhide LL).fr.size (Nat.le_of_eq hB5.symm)); replace LL := hide L5; replace MM := hide ((unhide MM).on hb5); clear L5 hb5; simp only [Act.put, List.setIfInBounds_toArray, List.set_cons_succ, List.set_cons_zero]) | ((refine append_any (v := T.rv) rfl rfl rfl rfl Tryz.underlying142 info74 rfl (by decide) (unhide MM).own ((unhide LL).get 3 rfl) rfl (by simp [Value.oneCell']) (by have h1 := unhide hlen2; have h2 := unhide hl2; simp; omega) (by decide) (Nat.zero_le _) ?_); intro A6 c6 w6 ho6 hg6 hf6; have V6 := hide (rv_new (unhide HH) hf6 (unhide hR) ((unhide LL).lt (R, RR.cs ⟨R, k, d, T.last + 1, false⟩) (by simp)) (unhide LL).fr.size); have M6 := hide ((unhide MM).app (unhide hnd) (Fr.grown hg6) ho6); replace LL := hide ((unhide LL).step (Fr.grown hg6) (fun b hb => Or.inl (TT.Part.mem (.inr (.inl (by simpa using hb))))) (fun q hq => not_rv (unhide HH) (four hq (unhide hR) (unhide hB5)))); clear MM ho6 hg6 hf6; simp only [Act.put, List.setIfInBounds_toArray, List.set_cons_succ, List.set_cons_zero]) | ((refine st (vs := [.slice A6 _ c6]) 0 142 (by rfl) rfl rfl rfl rfl (by simp [Value.oneCell']) siz70 (unhide LL) rfl (by simp [TT.cs, cput]) (Or.inl (List.mem_cons_self ..)) ?_); intro w7 L7 hf7 hs7; replace LL := hide L7; replace M6 := hide ((unhide M6).fr hf7 (unhide HH) (unhide V6)); clear L7 hf7 hs7; simp only [Act.put, List.setIfInBounds_toArray, List.set_cons_succ, List.set_cons_zero]))
  rw [List.length_map] at LL M6 V6 ⊢
  refine wp_region_held_drew (P := Tryz.prog) (S := fun X => Hq w X T.blocks [(T.t, [.map (some T.m), .slice A6 (T.rows.length + 1) c6, .int .u64 ((T.last : Int) + 1)]), (w.heap.size, (k.cs ++ d.cs)), (R, (RR.mk R k d (T.last + 1) false).cs), (B5, [.pointer (some ⟨R, 0, none⟩)])]) (by kernel_rfl) (unhide LL).drew (fun hS0 => ?_)
  refine gsem 0 (some 29) (.pointer (some ⟨T.t, 0, none⟩)) rfl (by kernel_rfl) (by kernel_rfl) (by kernel_rfl) (fun _ _ _ h => h) (by kernel_rfl) (by kernel_rfl) (fun _ _ => by kernel_rfl) hS0 ?_
  simp only [Act.put, List.setIfInBounds_toArray, List.set_cons_succ, List.set_cons_zero]
  refine gsem 1 (some 30) (.pointer (some ⟨T.t, 0, none⟩)) rfl (by kernel_rfl) (by kernel_rfl) (by kernel_rfl) (fun _ _ _ h => h) (by kernel_rfl) (by kernel_rfl) (fun _ _ => by kernel_rfl) hS0 ?_
  simp only [Act.put, List.setIfInBounds_toArray, List.set_cons_succ, List.set_cons_zero]
  refine gsem 2 (some 31) (.pointer (some ⟨T.t, 0, none⟩)) rfl (by kernel_rfl) (by kernel_rfl) (by kernel_rfl) (fun _ _ _ h => h) (by kernel_rfl) (by kernel_rfl) (fun _ _ => by kernel_rfl) hS0 ?_
  simp only [Act.put, List.setIfInBounds_toArray, List.set_cons_succ, List.set_cons_zero]
  refine gsem 3 (some 32) (.map (some T.m)) rfl (by kernel_rfl) (by kernel_rfl) (by kernel_rfl) (fun _ _ _ h => h) (by kernel_rfl) (by kernel_rfl) (fun X hX => ex_load1 141 Tryz.isAgg141 rfl rfl (hX.get 0 rfl) rfl) hS0 ?_
  simp only [Act.put, List.setIfInBounds_toArray, List.set_cons_succ, List.set_cons_zero]
  refine gsem 4 (some 33) (.pointer (some ⟨w.heap.size, 0, none⟩)) rfl (by kernel_rfl) (by kernel_rfl) (by kernel_rfl) (fun _ _ _ h => h) (by kernel_rfl) (by kernel_rfl) (fun _ _ => by kernel_rfl) hS0 ?_
  simp only [Act.put, List.setIfInBounds_toArray, List.set_cons_succ, List.set_cons_zero]
  refine gsem 5 (some 34) (k.agg) rfl (by kernel_rfl) (by kernel_rfl) (by kernel_rfl) (fun _ _ _ h => h) (by kernel_rfl) (by kernel_rfl) (fun X hX => ex_loadN (vs := k.cs) 26 2 row33x siz33 rfl rfl (hX.get 1 rfl) rfl rfl) hS0 ?_
  simp only [Act.put, List.setIfInBounds_toArray, List.set_cons_succ, List.set_cons_zero]
  refine gsem 6 (some 35) (.pointer (some ⟨R, 0, none⟩)) rfl (by kernel_rfl) (by kernel_rfl) (by kernel_rfl) (fun _ _ _ h => h) (by kernel_rfl) (by kernel_rfl) (fun _ _ => by kernel_rfl) hS0 ?_
  simp only [Act.put, List.setIfInBounds_toArray, List.set_cons_succ, List.set_cons_zero]
  refine wpAnyH_ready (rs := [7]) (by kernel_rfl) (by simp) (gupd (r := R) 7 rfl (by kernel_rfl) (by kernel_rfl) rfl rfl rfl rfl (unhide M6).1.drew (unhide hk2) (by have h2 := unhide hl2; unfold maxLen; omega) (fun X hX => hS0.step hX (fun b hb => Or.inl (by obtain rfl : b = T.m := (by simpa using hb); exact TT.Part.mem (.inl rfl))) (fun q hq => not_m (unhide HH) (four hq (unhide hR) (unhide hB5)))) ?_ AllReadyH.nil)
  intro X hM hX
  replace hS0 := hS0.step hX (fun b hb => Or.inl (by obtain rfl : b = T.m := (by simpa using hb); exact TT.Part.mem (.inl rfl))) (fun q hq => not_m (unhide HH) (four hq (unhide hR) (unhide hB5)))
  have hM2 : Hid (MapIs X T.m (T.last + 1) (T.live.length + 1) (putF (fun q => (T.find q).map (·.b)) k (some R))) := by
    have e := unhide hn2
    have := hM
    simp only [e, Option.map_none, Option.isSome_none] at this
    exact hide this
  have hF := hide ((unhide M6).drew.fin hX (unhide HH) (unhide V6))
  clear hM hX M6
  simp only [Act.put, List.setIfInBounds_toArray, List.set_cons_succ, List.set_cons_zero]
  refine wpAnyH_done (by kernel_rfl) ?_ _
  try simp only [Act.put, List.setIfInBounds_toArray, List.set_cons_succ, List.set_cons_zero]
  have LS := hide hS0
  clear hS0 LL
  go_wp2
  go_end0
  refine ⟨rfl, .slice A6 (T.rows.length + 1) c6, R, ?_, (unhide LS).fr, unhide hR, fun g hg => ((unhide V6) g hg).1⟩
  exact TT.Is.added (unhide HH) (unhide hn2) (unhide hg2) ((unhide LS).get 0 rfl) (unhide hM2) (unhide hF).1 (unhide hF).2 ((unhide LS).get 2 rfl) (unhide hR) (unhide V6)
/-- The row in block b has another descriptor. -/
def updR (b : Nat) (d : DD) (r : RR) : RR := if r.b = b then { r with d := d } else r
theorem updR_b (b : Nat) (d : DD) (r : RR) : (updR b d r).b = r.b ∧ (updR b d r).k = r.k ∧ (updR b d r).n = r.n ∧ (updR b d r).gone = r.gone := by
  unfold updR
  split <;> simp
def TT.upd (T : TT) (b : Nat) (d : DD) : TT := { T with rows := T.rows.map (updR b d) }
theorem TT.upd_live (T : TT) (b : Nat) (d : DD) : (T.upd b d).live = T.live.map (updR b d) := by
  unfold TT.live TT.upd
  simp only [List.filter_map]
  congr 1
  apply List.filter_congr
  intro r _
  simp [(updR_b b d r).2.2.2]
theorem TT.upd_find (T : TT) (b : Nat) (d : DD) (k : KK) : (T.upd b d).find k = (T.find k).map (updR b d) := by
  unfold TT.find
  rw [TT.upd_live, List.find?_map]
  congr 1
  congr 1
  funext r
  simp [(updR_b b d r).2.1]
theorem TT.upd_bs (T : TT) (b : Nat) (d : DD) : (T.upd b d).rows.map (·.b) = T.rows.map (·.b) := by
  unfold TT.upd
  simp only [List.map_map]
  apply List.map_congr_left
  intro r _
  exact (updR_b b d r).1
theorem TT.upd_blocks (T : TT) (b : Nat) (d : DD) : (T.upd b d).blocks = T.blocks := by
  unfold TT.blocks
  rw [TT.upd_bs]
  rfl
theorem TT.Is.upd {T : TT} {w X : World} {r : RR} {d : DD} (hT : T.Is w) (hr : r ∈ T.rows) (hf : Fr w X [r.b]) (hn : Holds X r.b (r.k.cs ++ (d.cs ++ [.int .u64 r.n, .bool r.gone]))) : (T.upd r.b d).Is X := by
  have hnd := hT.nd
  simp only [TT.blocks, List.nodup_cons, List.mem_cons, List.mem_append, List.nodup_append, not_or] at hnd
  obtain ⟨⟨h1, h2, h3⟩, ⟨h4, h5⟩, h6, h7, h8⟩ := hnd
  have hm : r.b ∈ T.rows.map (·.b) := List.mem_map.2 ⟨r, hr, rfl⟩
  have hlt := hT.lt
  have part : ∀ b ∈ T.blocks, b ≠ r.b → X.heap[b]? = w.heap[b]? := fun b hb hne => hf.block b (hlt b hb) (by simpa using hne)
  refine ⟨?_, ?_, ?_, ?_, ?_, ?_, ?_, ?_, ?_⟩
  · exact hT.tab.block (part _ (by simp [TT.blocks]) (fun e => h3 (e ▸ hm)))
  · have e : (fun k => ((T.upd r.b d).find k).map (·.b)) = fun k => (T.find k).map (·.b) := by
      funext k
      rw [TT.upd_find]
      cases T.find k with
      | none => rfl
      | some q => simp [(updR_b r.b d q).1]
    rw [e, TT.upd_live, List.length_map]
    exact hT.map.block (part _ (by simp [TT.blocks]) (fun e => h5 (by rw [show T.m = r.b from e]; exact hm)))
  · rw [TT.upd_bs]
    exact hT.own.block (fun g hg => part _ (TT.Part.mem (.inr (.inl hg))) (fun e => h8 g (by rw [hg]; simp) r.b hm e))
  · intro q hq
    obtain ⟨p, hp, rfl⟩ := List.mem_map.1 (show q ∈ T.rows.map (updR r.b d) from hq)
    by_cases e : p.b = r.b
    · have hpr : p = r := by
        have := hT.rise
        rcases List.getElem?_of_mem hp with ⟨i, hi⟩
        rcases List.getElem?_of_mem hr with ⟨j, hj⟩
        have e1 : (T.rows.map (·.b))[i]? = some r.b := by simp [hi, e]
        have e2 : (T.rows.map (·.b))[j]? = some r.b := by simp [hj]
        have hij := (List.getElem?_inj (by simpa using (List.getElem?_eq_some_iff.1 hi).1) h7).1 (e1.trans e2.symm)
        subst hij
        rw [hi] at hj
        exact Option.some.inj hj
      subst hpr
      unfold updR
      rw [if_pos rfl]
      exact hn
    · unfold updR
      rw [if_neg e]
      exact (hT.rows p hp).block (part _ (TT.Part.mem (.inr (.inr (List.mem_map.2 ⟨p, hp, rfl⟩)))) e)
  · rw [TT.upd_blocks]
    exact hT.nd
  · show (T.rows.map (updR r.b d)).Pairwise _
    rw [List.pairwise_map]
    exact hT.rise.imp (fun {a b} h => by rw [(updR_b r.b d a).2.2.1, (updR_b r.b d b).2.2.1]; exact h)
  · intro q hq
    obtain ⟨p, hp, rfl⟩ := List.mem_map.1 (show q ∈ T.rows.map (updR r.b d) from hq)
    rw [(updR_b r.b d p).2.2.1]
    exact hT.num p hp
  · rw [TT.upd_live, List.pairwise_map]
    exact hT.keys.imp (fun {a b} h => by rw [(updR_b r.b d a).2.1, (updR_b r.b d b).2.1]; exact h)
  · rw [TT.upd_live]
    intro q hq
    obtain ⟨p, hp, rfl⟩ := List.mem_map.1 hq
    rw [(updR_b r.b d p).2.1]
    exact hT.good p hp
theorem isNaN82 (x : Nat) (w : World) : Calls Tryz.prog 104 #[.int .u64 x] w fun e w' => e = .returned (.bool false) ∧ w' = w := by
  go_enter Tryz.func104, Tryz.ntmps104
  go_wp2
  go_ret
  simp
theorem cmp71 (x y : Nat) (w : World) : Calls Tryz.prog 101 #[.int .u64 x, .int .u64 y] w fun e w' => e = .returned (.int .i64 (if x < y then -1 else if y < x then 1 else 0)) ∧ w' = w := by
  have H1 := hide (fun z : Nat => isNaN82 z w)
  by_cases h1 : x < y
  · rw [if_pos h1]
    have h1' : (x : Int) < (y : Int) := by omega
    go_enter Tryz.func101, Tryz.ntmps101
    go_wp2_with fail
    refine ((unhide H1) x).mono ?_
    rintro _ _ ⟨rfl, rfl⟩
    go_wp2_with fail
    refine ((unhide H1) y).mono ?_
    rintro _ _ ⟨rfl, rfl⟩
    go_wp2
    go_ret
    exact ⟨rfl, rfl⟩
  · rw [if_neg h1]
    have h1' : ¬ (x : Int) < (y : Int) := by omega
    by_cases h2 : y < x
    · rw [if_pos h2]
      have h2' : (y : Int) < (x : Int) := by omega
      go_enter Tryz.func101, Tryz.ntmps101
      go_wp2_with fail
      refine ((unhide H1) x).mono ?_
      rintro _ _ ⟨rfl, rfl⟩
      go_wp2_with fail
      refine ((unhide H1) y).mono ?_
      rintro _ _ ⟨rfl, rfl⟩
      go_wp2
      go_ret
      exact ⟨rfl, rfl⟩
    · rw [if_neg h2]
      have h2' : ¬ (y : Int) < (x : Int) := by omega
      go_enter Tryz.func101, Tryz.ntmps101
      go_wp2_with fail
      refine ((unhide H1) x).mono ?_
      rintro _ _ ⟨rfl, rfl⟩
      go_wp2_with fail
      refine ((unhide H1) y).mono ?_
      rintro _ _ ⟨rfl, rfl⟩
      go_wp2
      go_ret
      exact ⟨rfl, rfl⟩
/-- What one number is against another. -/
def cu (x y : Nat) : Int := if x < y then -1 else if y < x then 1 else 0
theorem byNumber58 (r : RR) (y : Nat) (w : World) (h : Holds w r.b r.cs) : Calls Tryz.prog 96 #[.pointer (some ⟨r.b, 0, none⟩), .int .u64 y] w fun e w' => e = .returned (.int .i64 (cu r.n y)) ∧ w' = w := by
  have H1 : Hid (Calls Tryz.prog 101 #[.int .u64 r.n, .int .u64 y] w fun e w' => e = .returned (.int .i64 (cu r.n y)) ∧ w' = w) := hide (cmp71 r.n y w)
  generalize cu r.n y = c at *
  have HR := hide h
  clear h
  go_enter Tryz.func96, Tryz.ntmps96
  go_wp2_with (first | go_skip | ((refine rd (by rfl) (ex_load1 90 Tryz.isAgg90 rfl rfl (unhide HR) rfl) ?_); simp only [Act.put, List.setIfInBounds_toArray, List.set_cons_succ, List.set_cons_zero]))
  refine (unhide H1).mono ?_
  rintro _ _ ⟨rfl, rfl⟩
  go_wp2
  go_ret
  exact ⟨rfl, rfl⟩
theorem ex_loadC {o : Oper} {a : Act} {W : World} {x : Operand} {B p : Nat} {v : Value} (t : TypeId) (hna : ∀ w, (isAgg t).run Tryz.prog w = .ok false w) (ho : o.op = .load t x) (hx : a.eval x = .pointer (some ⟨B, p, none⟩)) (h0 : W.cell? ⟨B, p, none⟩ = some v) : (execOp a.eval o).run Tryz.prog W = .ok (.value v) W := by
  unfold execOp
  simp only [ho, hx]
  simp [go_sem, h0, hna]
theorem OwnP.cell {W : World} {g cap n : Nat} {l : List Nat} (h : OwnP W (.slice (some ⟨g, 0, none⟩) n cap) l) (j : Nat) (hj : j < l.length) : W.cell? ⟨g, j, none⟩ = some (.pointer (some ⟨l[j], 0, none⟩)) := by
  rcases h.2 with ⟨h1, -⟩ | ⟨g', cap', cur, h1, h2, h3, h4, h5, h6, h7⟩
  · cases h1
  · cases h1
    have e : cur.toList[j]? = some (.pointer (some ⟨l[j], 0, none⟩)) := by
      have h8 : (cur.toList.take (l.length * 1))[j]? = (ptrs l)[j]? := by rw [h7]
      rw [List.getElem?_take, if_pos (by omega)] at h8
      rw [h8]
      simp [ptrs, hj]
    have e2 : cur[j]? = some (.pointer (some ⟨l[j], 0, none⟩)) := by simpa using e
    simp [World.cell?, h3, e2]
theorem bs_rows (g cap y : Nat) (l : List RR) (w : World) (ho : OwnP w (.slice (some ⟨g, 0, none⟩) l.length cap) (l.map (·.b))) (hr : ∀ r ∈ l, Holds w r.b r.cs) (hs : l.Pairwise (fun a b => a.n < b.n)) (hl : l.length ≤ 4000000) :
    Calls Tryz.prog 95 #[.slice (some ⟨g, 0, none⟩) l.length cap, .int .u64 y, .func (.func 96) #[] #[]] w fun e w' => ∃ (p : Nat) (f : Value), e = .returned (.tuple #[.int .i64 p, f]) ∧ p ≤ l.length ∧ (∀ t (h : t < l.length), t < p → l[t].n < y) ∧ (∀ t (h : t < l.length), p ≤ t → y ≤ l[t].n) ∧ w' = w := by
  have HO := hide ho
  have HR := hide hr
  have HS := hide hs
  clear ho hr hs
  go_enter Tryz.func95, Tryz.ntmps95
  go_wp2_with fail
  go_loopg [9, 10, 11] l.length (fun gm s9 s10 s11 wr => ∃ i j : Nat, s9 = .int .i64 i ∧ s10 = .int .i64 j ∧ i ≤ j ∧ j ≤ l.length ∧ j - i ≤ gm ∧ Hid ((∀ t (h : t < l.length), t < i → l[t].n < y) ∧ (∀ t (h : t < l.length), j ≤ t → y ≤ l[t].n)) ∧ wr = w)
  case atStart => exact ⟨0, l.length, rfl, rfl, by omega, by omega, by omega, hide ⟨fun t h h2 => by omega, fun t h h2 => by omega⟩, rfl⟩
  case round =>
    obtain ⟨i, j, rfl, rfl, hij, hjl, hg, H3, rfl⟩ := hrel
    by_cases hlt : i < j
    · have hlz : (i : Int) < j := by omega
      have hm : (i + j) / 2 < l.length := by omega
      obtain ⟨r, hr⟩ : ∃ r, r = l[(i + j) / 2] := ⟨_, rfl⟩
      have HC : Hid (wr.cell? ⟨g, (i + j) / 2, none⟩ = some (.pointer (some ⟨r.b, 0, none⟩))) := hide (by
        have := (unhide HO).cell ((i + j) / 2) (by simpa using hm)
        rw [this, hr]; simp)
      have HB := hide (byNumber58 r y wr (unhide HR r (by rw [hr]; exact List.getElem_mem hm)))
      by_cases hc : r.n < y
      · have ec : cu r.n y = -1 := by unfold cu; rw [if_pos hc]
        rw [ec] at HB
        have HQ : Hid ((∀ t (h : t < l.length), t < (i + j) / 2 + 1 → l[t].n < y) ∧ (∀ t (h : t < l.length), j ≤ t → y ≤ l[t].n)) := hide ⟨fun t h h2 => (by
          rcases Nat.lt_or_ge t ((i + j) / 2) with h3 | h3
          · have h4 := (List.pairwise_iff_getElem.1 (unhide HS)) t ((i + j) / 2) h hm h3
            rw [← hr] at h4
            omega
          · have h4 : t = (i + j) / 2 := by omega
            subst h4
            rw [← hr]; exact hc), (unhide H3).2⟩
        clear hr hc ec H3
        go_wp2_with (first | go_skip | ((refine rd (by rfl) (ex_loadC 168 Tryz.isAgg168 rfl rfl (unhide HC)) ?_); simp only [Act.put, List.setIfInBounds_toArray, List.set_cons_succ, List.set_cons_zero]))
        refine (unhide HB).mono ?_
        rintro _ _ ⟨rfl, rfl⟩
        go_wp2
        go_roundg (j - ((i + j) / 2 + 1))
        case measure => omega
        case rel => exact ⟨(i + j) / 2 + 1, j, by first | rfl | (congr 1; omega), rfl, by omega, hjl, by omega, HQ, rfl⟩
      · have ec : ¬ cu r.n y < 0 := by unfold cu; rw [if_neg hc]; split <;> omega
        generalize cu r.n y = c at *
        have HQ : Hid ((∀ t (h : t < l.length), t < i → l[t].n < y) ∧ (∀ t (h : t < l.length), (i + j) / 2 ≤ t → y ≤ l[t].n)) := hide ⟨(unhide H3).1, fun t h h2 => (by
          rcases Nat.lt_or_ge ((i + j) / 2) t with h3 | h3
          · have h4 := (List.pairwise_iff_getElem.1 (unhide HS)) ((i + j) / 2) t hm h h3
            rw [← hr] at h4
            omega
          · have h4 : t = (i + j) / 2 := by omega
            subst h4
            rw [← hr]; omega)⟩
        clear hr hc H3
        go_wp2_with (first | go_skip | ((refine rd (by rfl) (ex_loadC 168 Tryz.isAgg168 rfl rfl (unhide HC)) ?_); simp only [Act.put, List.setIfInBounds_toArray, List.set_cons_succ, List.set_cons_zero]))
        refine (unhide HB).mono ?_
        rintro _ _ ⟨rfl, rfl⟩
        go_wp2
        go_roundg ((i + j) / 2 - i)
        case measure => omega
        case rel => exact ⟨i, (i + j) / 2, rfl, by first | rfl | (congr 1; omega), by omega, by omega, by omega, HQ, rfl⟩
    · have hlz : ¬ (i : Int) < j := by omega
      have hij2 : i = j := by omega
      subst hij2
      by_cases he : i < l.length
      · have hez : (i : Int) < l.length := by omega
        obtain ⟨r, hr⟩ : ∃ r, r = l[i] := ⟨_, rfl⟩
        have HC : Hid (wr.cell? ⟨g, i, none⟩ = some (.pointer (some ⟨r.b, 0, none⟩))) := hide (by
          have := (unhide HO).cell i (by simpa using he)
          rw [this, hr]; simp)
        have HB := hide (byNumber58 r y wr (unhide HR r (by rw [hr]; exact List.getElem_mem he)))
        generalize cu r.n y = c at *
        clear hr
        go_wp2_with (first | go_skip | ((refine rd (by rfl) (ex_loadC 168 Tryz.isAgg168 rfl rfl (unhide HC)) ?_); simp only [Act.put, List.setIfInBounds_toArray, List.set_cons_succ, List.set_cons_zero]))
        refine (unhide HB).mono ?_
        rintro _ _ ⟨rfl, rfl⟩
        go_wp2
        go_ret2
        exact ⟨i, _, rfl, hjl, (unhide H3).1, (unhide H3).2, rfl⟩
      · have hez : ¬ (i : Int) < l.length := by omega
        go_wp2
        go_ret2
        exact ⟨i, ⟨_, rfl⟩, hjl, (unhide H3).1, (unhide H3).2, rfl⟩
theorem bs_nil (y : Nat) (A : Option Addr) (cap : Nat) (w : World) :
    Calls Tryz.prog 95 #[.slice A 0 cap, .int .u64 y, .func (.func 96) #[] #[]] w fun e w' => ∃ (p : Nat) (f : Value), e = .returned (.tuple #[.int .i64 p, f]) ∧ p = 0 ∧ w' = w := by
  go_enter Tryz.func95, Tryz.ntmps95
  go_wp2_with fail
  go_loopg [9, 10, 11] 0 (fun gm s9 s10 s11 wr => s9 = .int .i64 0 ∧ s10 = .int .i64 0 ∧ wr = w)
  case atStart => exact ⟨rfl, rfl, rfl⟩
  case round =>
    obtain ⟨rfl, rfl, rfl⟩ := hrel
    go_wp2
    go_ret2
    exact ⟨0, _, rfl, rfl, rfl⟩
theorem find_at {l : List RR} {P : RR → Bool} {j : Nat} (hj : j < l.length) (h : P l[j] = true) (hb : ∀ t (ht : t < l.length), t < j → P l[t] = false) : l.find? P = some l[j] := by
  rw [List.find?_eq_some_iff_getElem]
  exact ⟨h, j, hj, rfl, fun t ht => by rw [hb t (by omega) ht]; rfl⟩
theorem find_none {l : List RR} {P : RR → Bool} (hb : ∀ t (ht : t < l.length), P l[t] = false) : l.find? P = none := by
  rw [List.find?_eq_none]
  intro x hx
  obtain ⟨t, ht, rfl⟩ := List.getElem_of_mem hx
  rw [hb t ht]
  simp
/-- The first row that stands behind the number n. -/
def after (n : Nat) (r : RR) : Bool := decide (n < r.n) && !r.gone
def TT.next (T : TT) (n : Nat) : Option RR := T.rows.find? (after n)
theorem slice70 (g n cap p : Nat) (hp : p ≤ n) (hn : n ≤ cap) (w : World) : ∃ off, (n - p ≠ 0 → off = p) ∧ (Instr.sliceAt 142 (.slice (some ⟨g, 0, none⟩) n cap) (some (.int .i64 (p : Nat))) none none).run Tryz.prog w = .ok (.slice (some ⟨g, off, none⟩) (n - p) (cap - p)) w := by
  refine ⟨if cap = p then 0 else p, fun h => by rw [if_neg (by omega)], ?_⟩
  rw [run_sliceAt_slice (h := by kernel_rfl), run_slice_l (ht := by kernel_rfl) (h0 := by omega) (h1 := by omega)]
  have e : (sizeOf (Tryz.prog.elem 142)).run Tryz.prog w = .ok 1 w := by kernel_rfl
  rw [e]
  by_cases h0 : p = 0
  · subst h0
    simp [sliced, Addr.add, Result.andThen]
  · by_cases h1 : cap = p
    · simp [sliced, Addr.add, Result.andThen, h0, h1]
    · simp [sliced, Addr.add, Result.andThen, h0, h1]
theorem slice70_nil (w : World) : (Instr.sliceAt 142 (.slice none 0 0) (some (.int .i64 (0 : Nat))) none none).run Tryz.prog w = .ok (.slice none 0 0) w := by kernel_rfl
theorem ex_slice70 {o : Oper} {a : Act} {w : World} {x ix : Operand} {v u : Value} {p : Nat} (ho : o.op = .slice 142 x (some ix) none none) (hx : a.eval x = v) (hix : a.eval ix = .int .i64 (p : Nat)) (h : (Instr.sliceAt 142 v (some (.int .i64 (p : Nat))) none none).run Tryz.prog w = .ok u w) : (execOp a.eval o).run Tryz.prog w = .ok (.value u) w := by
  unfold execOp
  simp only [ho, hx]
  simp [hix, h]
set_option maxRecDepth 100000 in
theorem next_rows (T : TT) (n g cap : Nat) (w : World) (hT : T.Is w) (hl : T.last ≤ 4000000) (hn : n < 4000000) (hv : T.rv = .slice (some ⟨g, 0, none⟩) T.rows.length cap) (hcap : T.rows.length ≤ cap) : Calls Tryz.prog 87 #[.pointer (some ⟨T.t, 0, none⟩), .int .u64 n] w fun e w' => e = .returned (pv ((T.next n).map (·.b))) ∧ w' = w := by
  have hlen := hT.len
  have HO : Hid (OwnP w (.slice (some ⟨g, 0, none⟩) T.rows.length cap) (T.rows.map (·.b))) := hide (hv ▸ hT.own)
  have HB := hide (bs_rows g cap (n + 1) T.rows w (unhide HO) hT.rows hT.rise (by omega))
  have HS := hide (fun p hp => slice70 g T.rows.length cap p hp hcap w)
  have hlen2 := hide hlen
  have HT := hide hT
  have hl2 := hide hl
  have hn2 := hide hn
  have HV : Hid (Holds w T.t [.map (some T.m), .slice (some ⟨g, 0, none⟩) T.rows.length cap, .int .u64 T.last]) := hide (by have := hT.tab; unfold TT.cs at this; rw [hv] at this; exact this)
  have HX : Hid (∀ j, (hj : j < T.rows.length) → w.cell? ⟨g, j, none⟩ = some (.pointer (some ⟨T.rows[j].b, 0, none⟩)) ∧ Holds w T.rows[j].b T.rows[j].cs) := hide (fun j hj => ⟨by
    have := (unhide HO).cell j (by simpa using hj)
    rw [this]; simp, hT.rows _ (List.getElem_mem hj)⟩)
  unfold TT.next
  obtain ⟨l, hle⟩ : ∃ l, l = T.rows := ⟨_, rfl⟩
  rw [← hle] at HB HS hlen2 HV HX HO ⊢
  clear hle hv hcap hT hlen hl hn HO
  go_enter Tryz.func87, Tryz.ntmps87
  go_wp2_with (first | go_skip | ((refine rd (by rfl) (ex_load1 142 Tryz.isAgg142 rfl rfl (unhide HV) rfl) ?_); simp only [Act.put, List.setIfInBounds_toArray, List.set_cons_succ, List.set_cons_zero]) | ((refine rd (by rfl) (ex_addu rfl rfl rfl (unhide hn2)) ?_); simp only [Act.put, List.setIfInBounds_toArray, List.set_cons_succ, List.set_cons_zero]))
  refine (unhide HB).mono ?_
  rintro _ w1 ⟨p, f, rfl, hp, h1, h2, rfl⟩
  obtain ⟨off, ho, hs⟩ := (unhide HS) p hp
  have HX := HX
  have H1 := hide h1
  have H2 := hide h2
  have HSl := hide hs
  have Ho := hide ho
  clear h1 h2 hs HS ho HB
  go_wp2_with (first | go_skip | ((refine rd (by rfl) (ex_load1 142 Tryz.isAgg142 rfl rfl (unhide HV) rfl) ?_); simp only [Act.put, List.setIfInBounds_toArray, List.set_cons_succ, List.set_cons_zero]) | ((refine rd (by rfl) (ex_slice70 rfl rfl rfl (unhide HSl)) ?_); simp only [Act.put, List.setIfInBounds_toArray, List.set_cons_succ, List.set_cons_zero]))
  go_loopg [26, 8] l.length (fun gm s26 s8 wr => ∃ i : Nat, s26 = .int .i64 i ∧ i ≤ l.length - p ∧ l.length - p - i ≤ gm ∧ Hid (∀ t (h : t < l.length), p ≤ t → t < p + i → l[t].gone = true) ∧ wr = w1)
  case atStart => exact ⟨0, rfl, by omega, by omega, hide (fun t h h2 h3 => by omega), rfl⟩
  case round =>
    obtain ⟨i, rfl, hi, hg, H3, rfl⟩ := hrel
    have hL : l.length ≤ 4000000 := by have a := unhide hlen2; have b := unhide hl2; omega
    have hiz : i ≤ 4000000 := by omega
    by_cases hlt : i < l.length - p
    · have hlz : (i : Int) < ((l.length - p : Nat) : Int) := by omega
      have hm : p + i < l.length := by omega
      obtain ⟨r, hr⟩ : ∃ r, r = l[p + i] := ⟨_, rfl⟩
      obtain ⟨hc1, hc2⟩ := (unhide HX) (p + i) hm
      rw [← hr] at hc1 hc2
      have HC : Hid (wr.cell? ⟨g, off + i, none⟩ = some (.pointer (some ⟨r.b, 0, none⟩))) := hide (by rw [(unhide Ho) (by omega)]; exact hc1)
      have HR := hide hc2
      clear hc1 hc2
      cases hgn : r.gone with
      | true =>
        have HR2 : Hid (Holds wr r.b (r.k.cs ++ (r.d.cs ++ [.int .u64 r.n, .bool true]))) := hide (hgn ▸ unhide HR)
        have HQ : Hid (∀ t (h : t < l.length), p ≤ t → t < p + (i + 1) → l[t].gone = true) := hide (fun t h h2 h3 => by
          rcases Nat.lt_or_ge t (p + i) with h4 | h4
          · exact (unhide H3) t h h2 h4
          · have h5 : t = p + i := by omega
            subst h5
            rw [← hr]; exact hgn)
        clear hr hgn H3 HR
        go_wp2_with (first | go_skip | ((refine rd (by rfl) (ex_loadC 168 Tryz.isAgg168 rfl rfl (unhide HC)) ?_); simp only [Act.put, List.setIfInBounds_toArray, List.set_cons_succ, List.set_cons_zero]) | ((refine rd (by rfl) (ex_load1 4 Tryz.isAgg4 rfl rfl (unhide HR2) rfl) ?_); simp only [Act.put, List.setIfInBounds_toArray, List.set_cons_succ, List.set_cons_zero]))
        go_roundg (l.length - p - (i + 1))
        case measure => omega
        case rel => exact ⟨i + 1, by go_num, hlt, Nat.le_refl _, HQ, rfl⟩
      | false =>
        have HR2 : Hid (Holds wr r.b (r.k.cs ++ (r.d.cs ++ [.int .u64 r.n, .bool false]))) := hide (hgn ▸ unhide HR)
        have hfnd : l.find? (after n) = some r := by
          rw [hr]
          refine find_at hm ?_ (fun t ht h4 => ?_)
          · have := (unhide H2) (p + i) hm (by omega)
            rw [← hr] at this ⊢
            simp [after, hgn]; omega
          · rcases Nat.lt_or_ge t p with h5 | h5
            · have := (unhide H1) t ht h5
              simp [after]; omega
            · have := (unhide H3) t ht h5 h4
              simp [after, this]
        have HF := hide hfnd
        clear hr hgn H3 HR hfnd
        go_wp2_with (first | go_skip | ((refine rd (by rfl) (ex_loadC 168 Tryz.isAgg168 rfl rfl (unhide HC)) ?_); simp only [Act.put, List.setIfInBounds_toArray, List.set_cons_succ, List.set_cons_zero]) | ((refine rd (by rfl) (ex_load1 4 Tryz.isAgg4 rfl rfl (unhide HR2) rfl) ?_); simp only [Act.put, List.setIfInBounds_toArray, List.set_cons_succ, List.set_cons_zero]))
        go_ret
        refine ⟨?_, rfl⟩
        rw [unhide HF]
        rfl
    · have hlz : ¬ (i : Int) < ((l.length - p : Nat) : Int) := by omega
      have hfnd : l.find? (after n) = none := by
        refine find_none (fun t ht => ?_)
        rcases Nat.lt_or_ge t p with h5 | h5
        · have := (unhide H1) t ht h5
          simp [after]; omega
        · have := (unhide H3) t ht h5 (by omega)
          simp [after, this]
      have HF := hide hfnd
      clear hfnd
      go_wp2
      go_ret
      refine ⟨?_, rfl⟩
      rw [unhide HF]
      rfl
set_option maxRecDepth 100000 in
theorem next50 (T : TT) (n : Nat) (w : World) (hT : T.Is w) (hl : T.last ≤ 4000000) (hn : n < 4000000) : Calls Tryz.prog 87 #[.pointer (some ⟨T.t, 0, none⟩), .int .u64 n] w fun e w' => e = .returned (pv ((T.next n).map (·.b))) ∧ w' = w := by
  rcases hT.own.2 with ⟨h1, h2⟩ | ⟨g, cap, cur, h1, h2, h3, h4, h5⟩
  · have hr : T.rows = [] := by simpa using h2
    have HV : Hid (Holds w T.t [.map (some T.m), .slice none 0 0, .int .u64 T.last]) := hide (by have := hT.tab; unfold TT.cs at this; rw [h1] at this; exact this)
    have HB := hide (bs_nil (n + 1) none 0 w)
    have HS := hide (slice70_nil w)
    have hn2 := hide hn
    have HE : Hid (T.next n = none) := hide (by unfold TT.next; rw [hr]; rfl)
    clear hT hl hn h1 h2 hr
    go_enter Tryz.func87, Tryz.ntmps87
    go_wp2_with (first | go_skip | ((refine rd (by rfl) (ex_load1 142 Tryz.isAgg142 rfl rfl (unhide HV) rfl) ?_); simp only [Act.put, List.setIfInBounds_toArray, List.set_cons_succ, List.set_cons_zero]) | ((refine rd (by rfl) (ex_addu rfl rfl rfl (unhide hn2)) ?_); simp only [Act.put, List.setIfInBounds_toArray, List.set_cons_succ, List.set_cons_zero]))
    refine (unhide HB).mono ?_
    rintro _ w1 ⟨p, f, rfl, rfl, rfl⟩
    go_wp2_with (first | go_skip | ((refine rd (by rfl) (ex_load1 142 Tryz.isAgg142 rfl rfl (unhide HV) rfl) ?_); simp only [Act.put, List.setIfInBounds_toArray, List.set_cons_succ, List.set_cons_zero]) | ((refine rd (by rfl) (ex_slice70 rfl rfl rfl (unhide HS)) ?_); simp only [Act.put, List.setIfInBounds_toArray, List.set_cons_succ, List.set_cons_zero]))
    go_loopg [26, 8] 0 (fun gm s26 s8 wr => s26 = .int .i64 0 ∧ wr = w1)
    case atStart => exact ⟨rfl, rfl⟩
    case round =>
      obtain ⟨rfl, rfl⟩ := hrel
      go_wp2
      go_ret
      refine ⟨?_, rfl⟩
      rw [unhide HE]
      rfl
  · have e : T.rv = .slice (some ⟨g, 0, none⟩) T.rows.length cap := by rw [h1]; simp
    exact next_rows T n g cap w hT hl hn e (by simpa using h4)
