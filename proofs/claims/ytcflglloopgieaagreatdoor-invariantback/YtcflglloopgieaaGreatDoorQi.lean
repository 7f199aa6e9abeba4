import Derived.Test.YtcflglloopgieaaGreatDoorQd
import Derived.Test.YtcflglloopgieaaGreatDoorQh
import Derived.Deep.MidRow
import Derived.Deep.AppendLies
import Derived.Deep.LoopGhost
import Derived.Deep.RegionHeld3
import Derived.Great.BuildSlice
import Derived.Laws.AppendOwnNone
import Derived.Laws.MakeOwn
import Derived.Laws.OwnMore
import Derived.Maps.OwnSet
import Derived.Maps.Own
import Derived.WalkKit
import Derived.WalkSpells
import Derived.Carry
import Derived.DeepKeys4

/-! Ya -/
namespace Go.Proofs.YtcflglloopgieaaGreatDoor
open Go Go.Proofs Go.Maps Go.RowKit
set_option linter.unusedSimpArgs false
set_option linter.unusedVariables false
set_option maxHeartbeats 1000000
theorem heap_setCells (b : Nat) : ∀ (vs : List Value) (o : Nat) (X : World) (g : Nat), g ≠ b → (X.setCells b o vs).heap[g]? = X.heap[g]?
  | [], _, _, _, _ => rfl
  | v :: vs, o, X, g, h => by
    rw [World.setCells, heap_setCells b vs _ _ g h]
    simp [World.setCell, Array.getElem?_modify, Ne.symm h]
/-- Block B holds these cells, and may be written. -/
def Holds (W : World) (B : Nat) (cs : List Value) : Prop := (∀ j, W.frozen? ⟨B, j, none⟩ = false) ∧ W.rangeAt B 0 cs
theorem Holds.block {W W1 : World} {B : Nat} {cs : List Value} (h : Holds W B cs) (he : W1.heap[B]? = W.heap[B]?) : Holds W1 B cs := by
  have hc : ∀ j, W1.cell? ⟨B, j, none⟩ = W.cell? ⟨B, j, none⟩ := fun j => World.cell?_of_block he
  have hf : ∀ j, W1.frozen? ⟨B, j, none⟩ = W.frozen? ⟨B, j, none⟩ := fun j => World.frozen?_of_block he
  unfold Holds World.rangeAt at *
  simp only [hc, hf]
  exact h
theorem Holds.new (w : World) (cs : List Value) (t : TypeId) : Holds (w.alloc (Obj.cells cs.toArray t)) w.heap.size cs := by
  refine ⟨fun j => ?_, fun j v hv => ?_⟩
  · simp [go_sem]
  · simp [go_sem]
    exact hv
theorem Holds.cell {W : World} {B : Nat} {cs : List Value} (h : Holds W B cs) (p : Nat) {v : Value} (hp : cs[p]? = some v) : W.cell? ⟨B, p, none⟩ = some v := by
  have := h.2 p v hp
  simpa using this
theorem Holds.mid {W : World} {B : Nat} {cs : List Value} (h : Holds W B cs) (p n : Nat) : W.rangeAt B p ((cs.drop p).take n) := by
  intro j v hv
  rw [List.getElem?_take] at hv
  split at hv
  · rw [List.getElem?_drop] at hv
    exact h.cell (p + j) hv
  · cases hv
theorem Holds.there {W : World} {B : Nat} {cs : List Value} (h : Holds W B cs) (p n : Nat) (hp : p + n ≤ cs.length) : W.there B p n := by
  intro j hj
  refine ⟨?_, h.1 _⟩
  rw [h.cell (p + j) (List.getElem?_eq_getElem (by omega))]
  rfl
theorem Holds.lt {W : World} {B : Nat} {cs : List Value} (h : Holds W B cs) (hc : 0 < cs.length) : B < W.heap.size := by
  have h0 := h.cell 0 (List.getElem?_eq_getElem hc)
  rcases Nat.lt_or_ge B W.heap.size with h1 | h1
  · exact h1
  · exfalso
    have e : W.heap[B]? = none := Array.getElem?_eq_none h1
    simp [World.cell?, e] at h0
/-- Cells from p on are others. -/
def cput (cs : List Value) (p : Nat) (vs : List Value) : List Value := cs.take p ++ vs ++ cs.drop (p + vs.length)
theorem Holds.put {W : World} {B : Nat} {cs : List Value} (h : Holds W B cs) (p : Nat) (vs : List Value) (hp : p + vs.length ≤ cs.length) : Holds (W.setCells B p vs) B (cput cs p vs) := by
  refine ⟨fun j => by rw [World.frozen?_setCells]; exact h.1 j, fun j v hv => ?_⟩
  unfold cput at hv
  have hth := h.there p vs.length hp
  have e0 : (⟨B, 0 + j, none⟩ : Addr) = ⟨B, j, none⟩ := by simp
  rw [e0]
  by_cases h1 : j < p
  · rw [List.getElem?_append_left (by simp; omega), List.getElem?_append_left (by simp; omega), List.getElem?_take, if_pos h1] at hv
    rw [World.cell?_setCells_out B vs p W ⟨B, j, none⟩ (fun _ _ => Or.inl h1)]
    exact h.cell j hv
  · by_cases h2 : j < p + vs.length
    · rw [List.getElem?_append_left (by simp; omega), List.getElem?_append_right (by simp; omega)] at hv
      have h3 := World.rangeAt_setCells_same W B p vs hth (j - p) v (by simpa [Nat.min_eq_left (by omega : p ≤ cs.length)] using hv)
      rwa [show p + (j - p) = j by omega] at h3
    · rw [List.getElem?_append_right (by simp; omega), List.getElem?_drop] at hv
      rw [World.cell?_setCells_out B vs p W ⟨B, j, none⟩ (fun _ _ => Or.inr (by show p + vs.length ≤ j; omega))]
      refine h.cell j ?_
      rw [← hv]
      congr 1
      simp
      omega
section
variable {o : Oper} {a : Act} {W : World} {x : Operand} {B p : Nat} {cs : List Value}
theorem ex_load1 {v : Value} (t : TypeId) (hna : ∀ w, (isAgg t).run Tryz.prog w = .ok false w) (ho : o.op = .load t x) (hx : a.eval x = .pointer (some ⟨B, p, none⟩)) (hc : Holds W B cs) (hv : cs[p]? = some v) : (execOp a.eval o).run Tryz.prog W = .ok (.value v) W := by
  have h0 := hc.cell p hv
  unfold execOp
  simp only [ho, hx]
  simp [go_sem, h0, hna]
theorem ex_loadN {vs : List Value} (t : TypeId) (n : Nat) (hu : ∃ d, Tryz.prog.underlying t = some d ∧ d.isRow = true) (hi : (Tryz.prog.info? t).map (·.size) = some n) (ho : o.op = .load t x) (hx : a.eval x = .pointer (some ⟨B, p, none⟩)) (hc : Holds W B cs) (hv : (cs.drop p).take n = vs) (hn : vs.length = n) : (execOp a.eval o).run Tryz.prog W = .ok (.value (.agg vs.toArray)) W := by
  obtain ⟨d, hu, hd⟩ := hu
  have h0 := hc.mid p n
  rw [hv] at h0
  unfold execOp
  simp only [ho, hx, Instr.loadAt, Instr.sureAddr, Sem.run_bind, Sem.run_pure, Result.andThen_ok, run_loadVar_mid W B p t vs d h0 hu hd (by rw [hi, hn])]
end
theorem ex_loadC {o : Oper} {a : Act} {W : World} {x : Operand} {B p : Nat} {v : Value} (t : TypeId) (hna : ∀ w, (isAgg t).run Tryz.prog w = .ok false w) (ho : o.op = .load t x) (hx : a.eval x = .pointer (some ⟨B, p, none⟩)) (h0 : W.cell? ⟨B, p, none⟩ = some v) : (execOp a.eval o).run Tryz.prog W = .ok (.value v) W := by
  unfold execOp
  simp only [ho, hx]
  simp [go_sem, h0, hna]
theorem ex_loadR {o : Oper} {a : Act} {W : World} {x : Operand} {B p : Nat} {vs : List Value} (t : TypeId) (n : Nat) (hu : ∃ d, Tryz.prog.underlying t = some d ∧ d.isRow = true) (hi : (Tryz.prog.info? t).map (·.size) = some n) (ho : o.op = .load t x) (hx : a.eval x = .pointer (some ⟨B, p, none⟩)) (h0 : W.rangeAt B p vs) (hn : vs.length = n) : (execOp a.eval o).run Tryz.prog W = .ok (.value (.agg vs.toArray)) W := by
  obtain ⟨d, hu, hd⟩ := hu
  unfold execOp
  simp only [ho, hx, Instr.loadAt, Instr.sureAddr, Sem.run_bind, Sem.run_pure, Result.andThen_ok, run_loadVar_mid W B p t vs d h0 hu hd (by rw [hi, hn])]
theorem range_left {w : World} {b p : Nat} {a c : List Value} (h : w.rangeAt b p (a ++ c)) : w.rangeAt b p a := fun j v hv => h j v (by rw [List.getElem?_append_left (List.getElem?_eq_some_iff.1 hv).1]; exact hv)
theorem range_right {w : World} {b p : Nat} {a c : List Value} (h : w.rangeAt b p (a ++ c)) : w.rangeAt b (p + a.length) c := fun j v hv => by
  have := h (a.length + j) v (by rw [List.getElem?_append_right (by omega)]; simpa using hv)
  rwa [← Nat.add_assoc] at this
/-- Of what was there in w, X has other blocks at most at E. -/
structure Fr (w X : World) (E : List Nat) : Prop where
  os : X.os = w.os
  tape : X.tape = w.tape
  output : X.output = w.output
  size : w.heap.size ≤ X.heap.size
  block : ∀ b, b < w.heap.size → b ∉ E → X.heap[b]? = w.heap[b]?
theorem Fr.refl (w : World) (E : List Nat) : Fr w w E := ⟨rfl, rfl, rfl, Nat.le_refl _, fun _ _ _ => rfl⟩
theorem Fr.trans {w X Y : World} {E E' : List Nat} (h : Fr w X E) (k : Fr X Y E') (hE : ∀ b ∈ E', b ∈ E ∨ w.heap.size ≤ b) : Fr w Y E :=
  ⟨k.os.trans h.os, k.tape.trans h.tape, k.output.trans h.output, Nat.le_trans h.size k.size, fun b hb he =>
    (k.block b (Nat.lt_of_lt_of_le hb h.size) (fun he' => (hE b he').elim he (fun h2 => by omega))).trans (h.block b hb he)⟩
theorem Fr.of_below {w X : World} (h : Below w.heap.size w X) (E : List Nat) : Fr w X E := ⟨h.os, h.tape, h.output, h.size, fun b hb _ => h.block b hb⟩
theorem Fr.below {w X : World} (h : Fr w X []) : Below w.heap.size w X := ⟨h.os, h.tape, h.output, h.size, fun b hb => h.block b hb (by simp)⟩
theorem Fr.on {w X Y : World} {E : List Nat} (h : Fr w X E) (k : Below X.heap.size X Y) : Fr w Y E := h.trans (Fr.of_below k []) (by simp)
theorem Fr.mono {w X : World} {E E' : List Nat} (h : Fr w X E) (hE : ∀ b ∈ E, b ∈ E' ∨ w.heap.size ≤ b) : Fr w X E' := (Fr.refl w E').trans h hE
theorem Fr.drew {w X : World} {E : List Nat} (h : Fr w X E) : Fr w X.drew E := ⟨h.os, h.tape, h.output, h.size, h.block⟩
theorem os_setCells (b : Nat) : ∀ (vs : List Value) (o : Nat) (X : World), (X.setCells b o vs).os = X.os ∧ (X.setCells b o vs).tape = X.tape ∧ (X.setCells b o vs).output = X.output
  | [], _, _ => ⟨rfl, rfl, rfl⟩
  | v :: vs, o, X => by
    obtain ⟨h1, h2, h3⟩ := os_setCells b vs (o + 1) (X.setCell ⟨b, o, none⟩ v)
    rw [World.setCells]
    exact ⟨h1, h2, h3⟩
theorem Fr.setCells (X : World) (b p : Nat) (vs : List Value) : Fr X (X.setCells b p vs) [b] :=
  ⟨(os_setCells b vs p X).1, (os_setCells b vs p X).2.1, (os_setCells b vs p X).2.2, by rw [size_setCells]; exact Nat.le_refl _, fun g _ hg => heap_setCells b vs p X g (by simpa using hg)⟩
theorem Fr.grown {X Y : World} {row : Option Nat} (h : X.grownBy Y row) : Fr X Y row.toList :=
  ⟨h.os, h.tape, h.output, h.size, fun b hb hE => h.block b hb (fun e => hE (by rw [← e]; simp))⟩
/-- Our blocks hold what they held; of what was there ahead only blocks of E may have changed. -/
structure Hq (w X : World) (E : List Nat) (L : List (Nat × List Value)) : Prop where
  fr : Fr w X E
  all : ∀ q ∈ L, Holds X q.1 q.2 ∧ 0 < q.2.length
  nd : (L.map (·.1)).Nodup
theorem Hq.nil (w : World) (E : List Nat) : Hq w w E [] := ⟨Fr.refl _ _, (fun q hq => by cases hq), by simp⟩
theorem Hq.lt {w X : World} {E : List Nat} {L : List (Nat × List Value)} (h : Hq w X E L) : ∀ q ∈ L, q.1 < X.heap.size := fun q hq => (h.all q hq).1.lt (h.all q hq).2
theorem Hq.get {w X : World} {E : List Nat} {L : List (Nat × List Value)} (h : Hq w X E L) (i : Nat) {b : Nat} {cs : List Value} (hi : L[i]? = some (b, cs)) : Holds X b cs := (h.all _ (List.mem_of_getElem? hi)).1
theorem Hq.drew {w X : World} {E : List Nat} {L : List (Nat × List Value)} (h : Hq w X E L) : Hq w X.drew E L := ⟨h.fr.drew, fun q hq => ⟨(h.all q hq).1.block rfl, (h.all q hq).2⟩, h.nd⟩
theorem Hq.on {w X Y : World} {E : List Nat} {L : List (Nat × List Value)} (h : Hq w X E L) (k : Below X.heap.size X Y) : Hq w Y E L :=
  ⟨h.fr.on k, fun q hq => ⟨(h.all q hq).1.block (k.block _ (h.lt q hq)), (h.all q hq).2⟩, h.nd⟩
theorem Hq.step {w X Y : World} {E E' : List Nat} {L : List (Nat × List Value)} (h : Hq w X E L) (k : Fr X Y E') (hE : ∀ b ∈ E', b ∈ E ∨ w.heap.size ≤ b) (hL : ∀ q ∈ L, q.1 ∉ E') : Hq w Y E L :=
  ⟨h.fr.trans k hE, fun q hq => ⟨(h.all q hq).1.block (k.block _ (h.lt q hq) (hL q hq)), (h.all q hq).2⟩, h.nd⟩
theorem Hq.add {w X : World} {E : List Nat} {L : List (Nat × List Value)} (h : Hq w X E L) {b : Nat} {cs : List Value} (hb : Holds X b cs) (hc : 0 < cs.length) (hn : ∀ q ∈ L, q.1 ≠ b) : Hq w X E (L ++ [(b, cs)]) := by
  refine ⟨h.fr, fun q hq => ?_, ?_⟩
  · rcases List.mem_append.1 hq with hq | hq
    · exact h.all q hq
    · obtain rfl : q = (b, cs) := by simpa using hq
      exact ⟨hb, hc⟩
  · rw [List.map_append, List.nodup_append]
    refine ⟨h.nd, by simp, fun x hx y hy => ?_⟩
    obtain ⟨q, hq, rfl⟩ := List.mem_map.1 hx
    obtain rfl : y = b := by simpa using hy
    exact hn q hq
theorem Hq.new {w X : World} {E : List Nat} {L : List (Nat × List Value)} (h : Hq w X E L) (cs : List Value) (t : TypeId) (hc : 0 < cs.length) : Hq w (X.alloc (Obj.cells cs.toArray t)) E (L ++ [(X.heap.size, cs)]) :=
  (h.on ((Below.refl _ _).alloc (Nat.le_refl _) _)).add (Holds.new X cs t) hc (fun q hq => Nat.ne_of_lt (h.lt q hq))
theorem Hq.put {w X : World} {E : List Nat} {L : List (Nat × List Value)} (h : Hq w X E L) (i : Nat) {b : Nat} {cs : List Value} (hi : L[i]? = some (b, cs)) (p : Nat) (vs : List Value) (hp : p + vs.length ≤ cs.length) (hE : b ∈ E ∨ w.heap.size ≤ b) : Hq w (X.setCells b p vs) E (L.set i (b, cput cs p vs)) := by
  have hil := (List.getElem?_eq_some_iff.1 hi).1
  have hie := (List.getElem?_eq_some_iff.1 hi).2
  have hH := h.get i hi
  have hlen : (cput cs p vs).length = cs.length := by simp [cput]; omega
  refine ⟨h.fr.trans (Fr.setCells X b p vs) (by simpa using hE), fun q hq => ?_, ?_⟩
  · rcases List.getElem?_of_mem hq with ⟨j, hj⟩
    rw [List.getElem?_set] at hj
    split at hj
    · rename_i e
      subst e
      obtain rfl := Option.some.inj hj
      have h1 := (h.all _ (List.mem_of_getElem? hi)).2
      exact ⟨hH.put p vs hp, by simpa [hlen] using h1⟩
    · rename_i e
      have hm := List.mem_of_getElem? hj
      refine ⟨(h.all q hm).1.block (heap_setCells b vs p X q.1 ?_), (h.all q hm).2⟩
      intro eb
      have hjl := (List.getElem?_eq_some_iff.1 hj).1
      have h1 : (L.map (·.1))[i]? = some b := by simp [hi]
      have h2 : (L.map (·.1))[j]? = some b := by simp [hj, eb]
      have := (List.getElem?_inj (by simpa using hil) h.nd).1 (h1.trans h2.symm)
      exact e this
  · have e : (L.set i (b, cput cs p vs)).map (·.1) = L.map (·.1) := by
      rw [List.map_set]
      apply List.ext_getElem?
      intro j
      rw [List.getElem?_set]
      split
      · rename_i e
        subst e
        simp [hil, hie]
      · rfl
    rw [e]
    exact h.nd
section
variable {md : Region.Mode} {ops : Array Oper} {rest : List Oper} {Q : Exit → Act → World → Prop} {S : World → Prop} {w w0 : World} {fuel : Nat} {listed : Array Bool} {a : Act} {o : Oper}
theorem gsem (i : Nat) (dst : Option Tmp) (v : Value) (hi : ops[i]? = some o) (hs : Region.noSelect ops = true) (hf : Region.free md ops listed i = true) (hr : (Region.ready md ops listed).contains i = true)
    (hQ : ∀ c a w, Q (.panic c) (a.put dst v) w → Q (.panic c) a w) (hd : o.dst = dst) (hw : Region.wanted o (yielded ops a.tmps) = true) (hy : ∀ X, S X → (execOp a.eval o).run Tryz.prog X = .ok (.value v) X)
    (hS : S w) (h : wpAnyH Tryz.prog md ops Q S fuel (listed.setIfInBounds i true) (a.put dst v) w) : wpAnyH Tryz.prog md ops Q S (fuel + 1) listed a w := by
  subst hd
  exact wpAnyH_take hi hs hf hr hQ (Or.inl ⟨hw, hy⟩) hS h
theorem rd {v : Value} (hw : Region.wanted o (yielded ops a.tmps) = true) (hy : (execOp a.eval o).run Tryz.prog w = .ok (.value v) w) (h : wpList Tryz.prog ops Q rest (a.put o.dst v) w) : wpList Tryz.prog ops Q (o :: rest) a w := by
  refine BigFrame.wpList_want hw fun K hK => ?_
  have hP := hK _ _ h
  unfold Oper.wp
  rw [hy]
  exact hP
theorem run_storeVar_any (w : World) (b p : Nat) (ty : TypeId) (v : Value) (vs : List Value) (hv : v.cells.toList = vs) (ht : w.there b p vs.length) (hi : (Tryz.prog.info? ty).map (·.size) = some vs.length) (h1 : ∀ u ∈ vs, u.oneCell' = true) :
    (storeVar ty ⟨b, p, none⟩ v).run Tryz.prog w = .ok () (w.setCells b p vs) := by
  have := run_storeCells_cells (P := Tryz.prog) b p vs 0 w (fun j hj => by simpa using (ht j hj).1) (fun j hj => by simpa using (ht j hj).2) h1
  cases hq : Tryz.prog.info? ty with
  | none => simp [hq] at hi
  | some i =>
    have hs : v.cells.size = i.size := by
      have e : v.cells.size = vs.length := by rw [← hv]; simp
      simp [hq] at hi; omega
    simp only [Nat.add_zero] at this
    simp [storeVar, sizeOf, typeInfo, hq, hs, hv, this]
theorem st {E : List Nat} {L : List (Nat × List Value)} {b p : Nat} {cs vs : List Value} {v : Value} {x y : Operand} (i : Nat) (t : TypeId) (hw : Region.wanted o (yielded ops a.tmps) = true) (ho : o.op = .store t x y) (hx : a.eval x = .pointer (some ⟨b, p, none⟩)) (hy : a.eval y = v)
    (hv : v.cells.toList = vs) (h1 : ∀ u ∈ vs, u.oneCell' = true) (hi : (Tryz.prog.info? t).map (·.size) = some vs.length) (hL : Hq w0 w E L) (hg : L[i]? = some (b, cs)) (hp : p + vs.length ≤ cs.length) (hE : b ∈ E ∨ w0.heap.size ≤ b)
    (h : ∀ X, Hq w0 X E (L.set i (b, cput cs p vs)) → Fr w X [b] → X.heap.size = w.heap.size → wpList Tryz.prog ops Q rest (a.put o.dst undef) X) : wpList Tryz.prog ops Q (o :: rest) a w := by
  refine BigFrame.wpList_want hw fun K hK => ?_
  have hP := hK _ _ (h _ (hL.put i hg p vs hp hE) (Fr.setCells w b p vs) (size_setCells _ _ _))
  unfold Oper.wp execOp
  simp only [ho, hx, hy, Instr.storeAt, Instr.sureAddr, Sem.run_bind, Sem.run_pure, Result.andThen_ok, run_storeVar_any w b p t v vs hv ((hL.get i hg).there p vs.length hp) hi h1]
  exact hP
theorem bx {E : List Nat} {L : List (Nat × List Value)} {v : Value} {x : Operand} (t : TypeId) (cs : List Value) (hw : Region.wanted o (yielded ops a.tmps) = true) (ho : o.op = .box t x) (hx : a.eval x = v) (hv : v.cells.toList = cs) (hc : 0 < cs.length) (hL : Hq w0 w E L)
    (h : ∀ X B, B = w.heap.size → Hq w0 X E (L ++ [(B, cs)]) → Below w.heap.size w X → wpList Tryz.prog ops Q rest (a.put o.dst (.pointer (some ⟨B, 0, none⟩))) X) : wpList Tryz.prog ops Q (o :: rest) a w := by
  refine BigFrame.wpList_want hw fun K hK => ?_
  have e : v.cells = cs.toArray := by rw [← hv]
  have hP := hK _ _ (h _ _ rfl (hL.new cs t hc) ((Below.refl _ _).alloc (Nat.le_refl _) _))
  have e2 : (Instr.box t v).run Tryz.prog w = .ok (.pointer (some ⟨w.heap.size, 0, none⟩)) (w.alloc (Obj.cells cs.toArray t)) := by rw [← e]; rfl
  unfold Oper.wp execOp
  simp only [ho, hx]
  simp [e2]
  exact hP
end
/-- append onto one's own row: the row's block is the old one, or a new one. -/
theorem append_fresh (w : World) (base : Nat) (t ty e : TypeId) (i : TypeInfo) (z : Value) (size bytes : Nat) (ht : Tryz.prog.underlying t = some (.slice e)) (hi : Tryz.prog.info? e = some i) (hz : i.zero = some z)
    (hsize : i.size = size) (hby : i.bytes = bytes) (hzs : z.cells.size = size) (hsz : 0 < size) (v : Value) (n : Nat) (xs : List Value) (hown : w.ownsRow base e size v n xs)
    (a : Addr) (m c : Nat) (news : List Value) (hl : news.length = m * size) (hnews : ∀ j u, news[j]? = some u → w.cell? (a.add j) = some u) (h1 : ∀ u ∈ news, u.oneCell' = true)
    (h63 : n + m ≤ maxLen) (hbytes : (n + m) * bytes ≤ 140737488355328) (hbase : base ≤ w.heap.size) :
    ∃ v' w', (Builtin.append_ #[t, t] ty #[v, .slice (some a) m c]).run Tryz.prog w = .ok v' w' ∧ w'.ownsRow base e size v' (n + m) (xs ++ news) ∧ w.grownBy w' v.ownBlock ∧ (v'.ownBlock = v.ownBlock ∨ v'.ownBlock = some w.heap.size) := by
  obtain ⟨v', w', hr, ho, hg, hiff⟩ := run_append_own w base t ty e i z size bytes ht hi hz hsize hby hzs hsz v n xs hown a m c news hl hnews h1 h63 hbytes hbase
  refine ⟨v', w', hr, ho, hg, ?_⟩
  have hm : n + m ≤ 9223372036854775807 := by simp only [maxLen] at h63; omega
  have inj : ∀ {v2 : Value} {w2 : World}, (Builtin.append_ #[t, t] ty #[v, .slice (some a) m c]).run Tryz.prog w = .ok v2 w2 → v' = v2 := fun h2 => by
    rw [hr] at h2
    injection h2
  subst hsize
  subst hby
  rcases hown.2 with ⟨rfl, rfl⟩ | ⟨g, cap, cur, rfl, hbg, hgg, hnc, hcm, hcs, htake⟩
  · by_cases h0 : m = 0
    · exact Or.inl (by rw [hiff.2 ⟨rfl, h0⟩])
    · right
      have hb := hbytes
      rw [Nat.zero_add] at hb
      rw [inj (run_append_nil w t ty e i z ht hi hz a m c news hl hnews (by omega) (by omega) (by omega))]
      rfl
  · by_cases hroom : n + m ≤ cap
    · left
      have hfit : n * i.size + news.length ≤ cur.size := by rw [hl, hcs, ← Nat.add_mul]; exact Nat.mul_le_mul_right _ hroom
      rw [inj (run_append_room w t ty e i ht hi g n cap cur hgg a m c news hl hnews h1 hroom hfit)]
      rfl
    · right
      rw [inj (run_append_grow w t ty e i z ht hi hz ⟨g, 0, none⟩ n cap xs hown.1 (hown.cells (g := g) rfl) a m c news hl hnews (by omega) (by omega) (growslice_fits (by omega) hbytes))]
      rfl
def Fresh (w : World) (v v' : Value) : Prop := v'.ownBlock = v.ownBlock ∨ v'.ownBlock = some w.heap.size
section
variable {md : Region.Mode} {ops : Array Oper} {rest : List Oper} {Q : Exit → Act → World → Prop} {S : World → Prop} {w w0 : World} {fuel : Nat} {listed : Array Bool} {a : Act} {o : Oper}
theorem own_form {w : World} {base e size n : Nat} {v : Value} {xs : List Value} (h : w.ownsRow base e size v n xs) : ∃ A c, v = .slice A n c := by
  rcases h.2 with ⟨rfl, rfl⟩ | ⟨g, cap, cur, rfl, -⟩
  · exact ⟨_, _, rfl⟩
  · exact ⟨_, _, rfl⟩
/-- append onto one's own row, of any type. -/
theorem append_any {t e : TypeId} {size bytes n m c B base : Nat} {z v : Value} {xs news : List Value} {s x : Operand} (hgd : o.guard = none) (ho : o.op = .call { callee := .builtin .append, args := #[s, x], argTypes := #[t, t] }) (hs : a.eval s = v) (hx : a.eval x = .slice (some ⟨B, 0, none⟩) m c)
    (ht : Tryz.prog.underlying t = some (.slice e)) (hi : (Tryz.prog.info? e).map (fun i => (i.zero, i.size, i.bytes)) = some (some z, size, bytes)) (hz : z.cells.size = size) (hsz : 0 < size) (hown : w.ownsRow base e size v n xs) (hB : Holds w B news) (hl : news.length = m * size) (h1 : ∀ u ∈ news, u.oneCell' = true)
    (hn : n + m ≤ 1000000) (hby : bytes ≤ 10000) (hbase : base ≤ w.heap.size)
    (h : ∀ A c w', w'.ownsRow base e size (.slice A (n + m) c) (n + m) (xs ++ news) → w.grownBy w' v.ownBlock → Fresh w v (.slice A (n + m) c) → wpList Tryz.prog ops Q rest (a.put o.dst (.slice A (n + m) c)) w') : wpList Tryz.prog ops Q (o :: rest) a w := by
  obtain ⟨i0, hi, hz0, hz1, hz2⟩ := info_parts hi
  refine wpList_plain hgd fun K hK => ?_
  obtain ⟨v', w', hrun, h2, h3, h4⟩ := append_fresh w base t o.type e i0 _ size bytes ht hi hz0 hz1 hz2 hz hsz v n xs hown ⟨B, 0, none⟩ m c news hl (fun j u hj => by
    rw [Addr.add_mid]
    exact hB.2 j u hj) h1 (by unfold maxLen; omega) (Nat.le_trans (Nat.mul_le_mul hn hby) (by decide)) hbase
  obtain ⟨A', c', rfl⟩ := own_form h2
  have hP := hK _ _ (h A' c' w' h2 h3 h4)
  unfold Oper.wp
  simp [execOp, ho, resolve, invoke, builtin, hs, hx, hrun, Result.andThen]
  exact hP
theorem fold_set (off : Nat) : ∀ (vs : List Value) (j : Nat) (z : Array Value), off + j + vs.length ≤ z.size →
    ((vs.zipIdx j).foldl (fun cs (c, j) => cs.setIfInBounds (off + j) c) z).toList = z.toList.take (off + j) ++ vs ++ z.toList.drop (off + j + vs.length)
  | [], j, z, h => by simp
  | v :: vs, j, z, h => by
    simp only [List.length_cons] at h
    rw [List.zipIdx_cons, List.foldl_cons, fold_set off vs (j + 1) (z.setIfInBounds (off + j) v) (by simp; omega)]
    have hj : off + j < z.toList.length := by simp; omega
    have e1 : (z.setIfInBounds (off + j) v).toList = z.toList.set (off + j) v := by simp
    rw [e1, show off + (j + 1) = off + j + 1 by omega]
    rw [List.take_set, List.drop_set_of_lt (by omega), List.take_succ_eq_append_getElem hj]
    simp only [List.length_cons]
    rw [show off + j + 1 + vs.length = off + j + (vs.length + 1) by omega]
    rw [List.set_append_right _ _ (by simp; omega)]
    have e2 : off + j - (z.toList.take (off + j)).length = 0 := by simp; omega
    rw [e2]
    simp
theorem fill_one (size : Nat) (z : Array Value) (v : Value) (hz : z.size = size) (hv : v.cells.size = size) : Instr.fill (fun i => some (i * size, size)) z [(0, v)] = some v.cells := by
  have e := fold_set 0 v.cells.toList 0 z (by simp; omega)
  unfold Instr.fill
  simp only [Nat.zero_mul]
  rw [if_neg (by simp; omega)]
  unfold Instr.fill
  congr 1
  apply Array.toList_inj.1
  have e3 : v.cells.zipIdx.foldl (fun cs (c, j) => cs.setIfInBounds (0 + j) c) z = (v.cells.toList.zipIdx 0).foldl (fun cs (c, j) => cs.setIfInBounds (0 + j) c) z := by
    rw [← Array.foldl_toList, Array.toList_zipIdx]
  rw [e3, e]
  simp
  omega
/-- A slice of one. -/
theorem build_any {t e : TypeId} {size bytes : Nat} {z v : Value} {cs : List Value} {x : Operand} {E : List Nat} {L : List (Nat × List Value)} (hw : Region.wanted o (yielded ops a.tmps) = true) (ho : o.op = .buildSlice t 1 #[(0, x)]) (hx : a.eval x = v)
    (ht : Tryz.prog.underlying t = some (.slice e)) (hi : (Tryz.prog.info? e).map (fun i => (i.zero, i.size, i.bytes)) = some (some z, size, bytes)) (hs1 : size ≤ 100) (hv : v.cells.toList = cs) (hc : cs.length = size) (h0 : 0 < size) (hL : Hq w0 w E L)
    (h : ∀ X B, B = w.heap.size → Hq w0 X E (L ++ [(B, cs)]) → Below w.heap.size w X → wpList Tryz.prog ops Q rest (a.put o.dst (.slice (some ⟨B, 0, none⟩) 1 1)) X) : wpList Tryz.prog ops Q (o :: rest) a w := by
  refine BigFrame.wpList_want hw fun K hK => ?_
  obtain ⟨i0, hi, hz0, hz1, hz2⟩ := info_parts hi
  have ev : v.cells = cs.toArray := by rw [← hv]
  have es : v.cells.size = size := by rw [ev]; simpa using hc
  refine wp_buildSlice t e 1 _ ho cs.toArray i0 _ ht hi hz0 (by rw [hz1]; omega) (by rw [hz1]; omega) ?_ (hK _ _ (h _ _ rfl (hL.new cs e (by omega)) ((Below.refl _ _).alloc (Nat.le_refl _) _)))
  rw [hz1, ← ev]
  simp only [List.map_toArray, List.map_cons, List.map_nil, hx]
  exact fill_one size _ v (by simp) es
theorem gval (i : Nat) (dst : Option Tmp) {V : Value} {X : World} {rs : List Nat} (hi : ops[i]? = some o) (hd : o.dst = dst) (hw : Region.wanted o (yielded ops a.tmps) = true) (he : (execOp a.eval o).run Tryz.prog w = .ok (.value V) X) (hSX : S X)
    (h : wpAnyH Tryz.prog md ops Q S fuel (listed.setIfInBounds i true) (a.put dst V) X) (hs : AllReadyH Tryz.prog md ops Q S fuel listed a w rs) : AllReadyH Tryz.prog md ops Q S fuel listed a w (i :: rs) := by
  subst hd
  refine AllReadyH.cons hi (fun K hK => ?_) hs
  rw [if_pos hw]
  unfold Oper.wp
  rw [he]
  exact hK.out _ _ hSX (fun _ => h)
theorem gskp (i : Nat) (dst : Option Tmp) {X : World} {rs : List Nat} (hi : ops[i]? = some o) (hd : o.dst = dst) (hw : Region.wanted o (yielded ops a.tmps) = true) (he : (execOp a.eval o).run Tryz.prog w = .ok .skip X) (hSX : S X)
    (h : wpAnyH Tryz.prog md ops Q S fuel (listed.setIfInBounds i true) (a.put dst undef) X) (hs : AllReadyH Tryz.prog md ops Q S fuel listed a w rs) : AllReadyH Tryz.prog md ops Q S fuel listed a w (i :: rs) := by
  subst hd
  refine AllReadyH.cons hi (fun K hK => ?_) hs
  rw [if_pos hw]
  unfold Oper.wp
  rw [he]
  exact hK.out _ _ hSX (fun _ => h)
theorem ex_box {v : Value} {x : Operand} (t : TypeId) (cs : List Value) (ho : o.op = .box t x) (hx : a.eval x = v) (hv : v.cells.toList = cs) : (execOp a.eval o).run Tryz.prog w = .ok (.value (.pointer (some ⟨w.heap.size, 0, none⟩))) (w.alloc (Obj.cells cs.toArray t)) := by
  have e : v.cells = cs.toArray := by rw [← hv]
  have e2 : (Instr.box t v).run Tryz.prog w = .ok (.pointer (some ⟨w.heap.size, 0, none⟩)) (w.alloc (Obj.cells cs.toArray t)) := by rw [← e]; rfl
  unfold execOp
  simp only [ho, hx]
  simp [e2]
theorem ex_store {t : TypeId} {b p : Nat} {cs vs : List Value} {v : Value} {x y : Operand} (ho : o.op = .store t x y) (hx : a.eval x = .pointer (some ⟨b, p, none⟩)) (hy : a.eval y = v) (hv : v.cells.toList = vs) (h1 : ∀ u ∈ vs, u.oneCell' = true) (hi : (Tryz.prog.info? t).map (·.size) = some vs.length) (hH : Holds w b cs) (hp : p + vs.length ≤ cs.length) :
    (execOp a.eval o).run Tryz.prog w = .ok .skip (w.setCells b p vs) := by
  unfold execOp
  simp only [ho, hx, hy, Instr.storeAt, Instr.sureAddr, Sem.run_bind, Sem.run_pure, Result.andThen_ok, run_storeVar_any w b p t v vs hv (hH.there p vs.length hp) hi h1]
theorem ex_buildS {t e : TypeId} {size bytes : Nat} {z v : Value} {cs : List Value} {x : Operand} (ho : o.op = .buildSlice t 1 #[(0, x)]) (hx : a.eval x = v)
    (ht : Tryz.prog.underlying t = some (.slice e)) (hi : (Tryz.prog.info? e).map (fun i => (i.zero, i.size, i.bytes)) = some (some z, size, bytes)) (hs1 : size ≤ 100) (hv : v.cells.toList = cs) (hc : cs.length = size) (h0 : 0 < size) :
    (execOp a.eval o).run Tryz.prog w = .ok (.value (.slice (some ⟨w.heap.size, 0, none⟩) 1 1)) (w.alloc (Obj.cells cs.toArray e)) := by
  obtain ⟨i0, hi, hz0, hz1, hz2⟩ := info_parts hi
  have ev : v.cells = cs.toArray := by rw [← hv]
  have es : v.cells.size = size := by rw [ev]; simpa using hc
  have hr := run_buildSlice w t e 1 #[(0, v)] cs.toArray i0 _ ht hi hz0 (by rw [hz1]; omega) (by rw [hz1]; omega) (by
    rw [hz1, ← ev]
    exact fill_one size _ v (by simp) es)
  unfold execOp
  simp only [ho, List.map_toArray, List.map_cons, List.map_nil, hx]
  simp [hr]
end
theorem gcallR {md : Region.Mode} {ops : Array Oper} {Q : Exit → Act → World → Prop} {S : World → Prop} {w : World} {fuel : Nat} {listed : Array Bool} {a : Act} {o : Oper} (i : Nat) (dst : Option Tmp) {f : FuncId} {args : Array Value} {R : Ending → World → Prop} {rs : List Nat} (hi : ops[i]? = some o) (hd : o.dst = dst) (hw : Region.wanted o (yielded ops a.tmps) = true)
    (he : (execOp a.eval o).run Tryz.prog w = .ok (.enter f args) w) (hC : Calls Tryz.prog f args w R)
    (h : ∀ e X, R e X → ∃ V, e = .returned V ∧ S X ∧ wpAnyH Tryz.prog md ops Q S fuel (listed.setIfInBounds i true) (a.put dst V) X) (hs : AllReadyH Tryz.prog md ops Q S fuel listed a w rs) : AllReadyH Tryz.prog md ops Q S fuel listed a w (i :: rs) := by
  subst hd
  refine AllReadyH.cons hi (fun K hK => ?_) hs
  rw [if_pos hw]
  unfold Oper.wp
  rw [he, Oper.upon_enter]
  refine hC.mono ?_
  intro e X hR
  obtain ⟨V, rfl, hSX, hV⟩ := h e X hR
  exact hK.out _ _ hSX (fun _ => hV)
theorem ex_appendF {a : Act} {w : World} {o : Oper} {t e : TypeId} {size bytes k m c B base : Nat} {z v : Value} {xs news : List Value} {s x : Operand} (ho : o.op = .call { callee := .builtin .append, args := #[s, x], argTypes := #[t, t] }) (hs : a.eval s = v) (hx : a.eval x = .slice (some ⟨B, 0, none⟩) m c)
    (ht : Tryz.prog.underlying t = some (.slice e)) (hi : (Tryz.prog.info? e).map (fun i => (i.zero, i.size, i.bytes)) = some (some z, size, bytes)) (hz : z.cells.size = size) (hsz : 0 < size) (hown : w.ownsRow base e size v k xs) (hB : Holds w B news) (hl : news.length = m * size) (h1 : ∀ u ∈ news, u.oneCell' = true)
    (hn : k + m ≤ 1000000) (hby : bytes ≤ 10000) (hbase : base ≤ w.heap.size) :
    ∃ A c' w', (execOp a.eval o).run Tryz.prog w = .ok (.value (.slice A (k + m) c')) w' ∧ w'.ownsRow base e size (.slice A (k + m) c') (k + m) (xs ++ news) ∧ w.grownBy w' v.ownBlock ∧ Fresh w v (.slice A (k + m) c') := by
  obtain ⟨i0, hi, hz0, hz1, hz2⟩ := info_parts hi
  obtain ⟨v', w', hrun, h2, h3, h4⟩ := append_fresh w base t o.type e i0 _ size bytes ht hi hz0 hz1 hz2 hz hsz v k xs hown ⟨B, 0, none⟩ m c news hl (fun j u hj => by
    rw [Addr.add_mid]
    exact hB.2 j u hj) h1 (by unfold maxLen; omega) (Nat.le_trans (Nat.mul_le_mul hn hby) (by decide)) hbase
  obtain ⟨A', c', rfl⟩ := own_form h2
  refine ⟨A', c', w', ?_, h2, h3, h4⟩
  simp [execOp, ho, resolve, invoke, builtin, hs, hx, hrun, Result.andThen]
theorem gappF {md : Region.Mode} {ops : Array Oper} {Q : Exit → Act → World → Prop} {S : World → Prop} {w : World} {fuel : Nat} {listed : Array Bool} {a : Act} {o : Oper} {rs : List Nat} (i : Nat) (dst : Option Tmp) {t e : TypeId} {size bytes k m c B base : Nat} {z v : Value} {xs news : List Value} {s x : Operand} (hi0 : ops[i]? = some o) (hd : o.dst = dst) (hw : Region.wanted o (yielded ops a.tmps) = true) (ho : o.op = .call { callee := .builtin .append, args := #[s, x], argTypes := #[t, t] }) (hs : a.eval s = v) (hx : a.eval x = .slice (some ⟨B, 0, none⟩) m c)
    (ht : Tryz.prog.underlying t = some (.slice e)) (hi : (Tryz.prog.info? e).map (fun i => (i.zero, i.size, i.bytes)) = some (some z, size, bytes)) (hz : z.cells.size = size) (hsz : 0 < size) (hown : w.ownsRow base e size v k xs) (hB : Holds w B news) (hl : news.length = m * size) (h1 : ∀ u ∈ news, u.oneCell' = true)
    (hn : k + m ≤ 1000000) (hby : bytes ≤ 10000) (hbase : base ≤ w.heap.size) (hon : ∀ X, w.grownBy X v.ownBlock → S X)
    (h : ∀ A c' X, X.ownsRow base e size (.slice A (k + m) c') (k + m) (xs ++ news) → w.grownBy X v.ownBlock → Fresh w v (.slice A (k + m) c') → wpAnyH Tryz.prog md ops Q S fuel (listed.setIfInBounds i true) (a.put dst (.slice A (k + m) c')) X) (hs2 : AllReadyH Tryz.prog md ops Q S fuel listed a w rs) : AllReadyH Tryz.prog md ops Q S fuel listed a w (i :: rs) := by
  obtain ⟨A, c', w', he, h2, h3, h4⟩ := ex_appendF ho hs hx ht hi hz hsz hown hB hl h1 hn hby hbase
  exact gval i dst hi0 hd hw he (hon w' h3) (h A c' w' h2 h3 h4) hs2
/-- make of a slice of length nought. -/
theorem mk_any {ops : Array Oper} {rest : List Oper} {Q : Exit → Act → World → Prop} {w : World} {a : Act} {o : Oper} {t e : TypeId} {size bytes : Nat} {z : Value} {c x : Operand} (n : Nat) (hw : Region.wanted o (yielded ops a.tmps) = true) (ho : o.op = .makeSlice t c x) (hc : a.eval c = .int .i64 0) (hx : a.eval x = .int .i64 (n : Nat))
    (ht : Tryz.prog.underlying t = some (.slice e)) (hi : (Tryz.prog.info? e).map (fun i => (i.zero, i.size, i.bytes)) = some (some z, size, bytes)) (hn : n ≤ 100000) (hs : size ≤ 100) (hby : bytes ≤ 10000)
    (h : ∀ wm, wm.ownsRow w.heap.size e size (.slice (some ⟨w.heap.size, 0, none⟩) 0 n) 0 [] → Below w.heap.size w wm → wpList Tryz.prog ops Q rest (a.put o.dst (.slice (some ⟨w.heap.size, 0, none⟩) 0 n)) wm) : wpList Tryz.prog ops Q (o :: rest) a w := by
  obtain ⟨i0, hi, hz0, hz1, hz2⟩ := info_parts hi
  obtain ⟨wm, hrun, hm1, hm2⟩ := run_makeSlice_owned (P := Tryz.prog) w w.heap.size t e i0 _ size ht hi hz0 hz1 .i64 .i64 n (Nat.le_trans (Nat.mul_le_mul hn hs) (by decide)) (by rw [hz2]; exact Nat.le_trans (Nat.mul_le_mul hby hn) (by decide)) (by unfold maxLen; omega) (Nat.le_refl _)
  refine BigFrame.wpList_want hw fun K hK => ?_
  have hP := hK _ _ (h wm hm1 ⟨hm2.os, hm2.tape, hm2.output, hm2.size, fun k hk => hm2.block k hk (by simp)⟩)
  unfold Oper.wp execOp
  simp only [ho, hc, hx]
  simp [hrun]
  exact hP
theorem own_mono {w : World} {base base' e s n : Nat} {v : Value} {xs : List Value} (h : w.ownsRow base e s v n xs) (hb : base' ≤ base) : w.ownsRow base' e s v n xs := by
  obtain ⟨h1, h2⟩ := h
  refine ⟨h1, ?_⟩
  rcases h2 with h2 | ⟨g, cap, cur, rfl, h3, h4⟩
  · exact .inl h2
  · exact .inr ⟨g, cap, cur, rfl, Nat.le_trans hb h3, h4⟩
theorem ex_indexG {o : Oper} {a : Act} {w : World} {x ix : Operand} {g off n cap : Nat} (t : TypeId) (sz j : Nat) (hk : Tryz.prog.underlying t = some (.slice (Tryz.prog.elem t))) (he : ∀ w, (sizeOf (Tryz.prog.elem t)).run Tryz.prog w = .ok sz w) (ho : o.op = .indexAddr t x ix) (hx : a.eval x = .slice (some ⟨g, off, none⟩) n cap) (hix : a.eval ix = .int .i64 (j : Nat)) (hj : j < n) : (execOp a.eval o).run Tryz.prog w = .ok (.value (.pointer (some ⟨g, off + j * sz, none⟩))) w := by
  have h1 : (Instr.indexAt t (.slice (some ⟨g, off, none⟩) n cap) (.int .i64 (j : Nat))).run Tryz.prog w = .ok (.pointer (some ⟨g, off + j * sz, none⟩)) w := by
    rw [run_indexAt_slice (h := hk), if_pos ⟨by omega, by omega⟩, he]
    have e2 : (Addr.add ⟨g, off, none⟩ ((j : Int).toNat * sz)) = ⟨g, off + j * sz, none⟩ := by
      rw [Addr.add_mid]
      simp
    show Result.ok (Value.pointer (some (Addr.add ⟨g, off, none⟩ ((j : Int).toNat * sz)))) w = _
    rw [e2]
  unfold execOp
  simp only [ho, hx, hix]
  simp [h1]
end Go.Proofs.YtcflglloopgieaaGreatDoor

/-! Ob -/
namespace Go.Proofs.YtcflglloopgieaaGreatDoor
open Go Go.Proofs Go.Maps Go.RowKit
set_option linter.unusedSimpArgs false
set_option linter.unusedVariables false
/-- A key. -/
structure KK where
  s : ByteArray
  n : Int
def KK.agg (k : KK) : Value := .agg #[.string k.s, .int .i64 k.n]
def KK.cs (k : KK) : List Value := [.string k.s, .int .i64 k.n]
theorem KK.ext' {a b : KK} (h1 : a.s = b.s) (h2 : a.n = b.n) : a = b := by cases a; cases b; cases h1; cases h2; rfl
section
attribute [local go_sem] bits_run run_store_float
end
theorem laidOut : laidOutB Tryz.prog = true := by kernel_rfl
theorem rowk41 : (56 : TypeId) < Tryz.prog.types.size := of_decide_eq_true (by kernel_rfl)
theorem key41 : Tryz.prog.keyTypeAt 2 56 = true := by kernel_rfl
theorem law41 : Keyed Tryz.prog 56 := Keyed.of_law (deep_law_laid laidOut (m := 2) (by omega) rowk41 key41 (by rw [Tryz.underlying56]))
theorem keyT41 : Tryz.prog.keyType 56 = true := by kernel_rfl
theorem size_types' : decide ((1 : Nat) ≤ Tryz.prog.types.size) = true := by kernel_rfl
theorem size_types : ∃ n : Nat, Tryz.prog.types.size + 1 = n + 2 := by
  have h : (1 : Nat) ≤ Tryz.prog.types.size := of_decide_eq_true size_types'
  generalize Tryz.prog.types.size = m at h
  exact ⟨m - 1, by omega⟩
/-- What a key reads as. -/
def klit (s : ByteArray) (n : Int) : Lit := .string (keyBytes [.string s.data.toList, .int .i64 n])
theorem keyOf41 (s : ByteArray) (n : Int) (hs : s.size ≤ maxLen) (hn : (Lit.int .i64 n).wf = true) : keyOf Tryz.prog 56 (.agg #[.string s, .int .i64 n]) = some (klit s n) := by
  obtain ⟨N, hN⟩ := size_types
  unfold keyOf
  rw [Tryz.underlying56]
  simp only []
  rw [hN]
  have c41 : Tryz.prog.cellsOf 56 = 2 := by kernel_rfl
  have hf : Value.formed Tryz.prog 56 (.agg #[.string s, .int .i64 n]) = true := by
    simp [Value.formed, Tryz.underlying56, Tryz.underlying3, Tryz.underlying9, c41]
  have c9 : Tryz.prog.cellsOf 9 = 1 := by kernel_rfl
  have c3 : Tryz.prog.cellsOf 3 = 1 := by kernel_rfl
  rw [hf, keyT41]
  simp [Program.keyLits, Tryz.underlying56, Tryz.underlying3, Tryz.underlying9, c9, c3, c41, hs, hn, Value.cells, klit]
theorem klit_inj {s s' : ByteArray} {n n' : Int} (hs : s.size ≤ maxLen) (hn : (Lit.int .i64 n).wf = true) (hs' : s'.size ≤ maxLen) (hn' : (Lit.int .i64 n').wf = true) (h : klit s n = klit s' n') : s = s' ∧ n = n' := by
  have := law41.inj (keyOf41 s n hs hn) (h ▸ keyOf41 s' n' hs' hn')
  simpa using this
theorem klit_key {s : ByteArray} {n : Int} (hs : s.size ≤ maxLen) (hn : (Lit.int .i64 n).wf = true) : WideAt.IsKeyLit (klit s n) := law41.key (keyOf41 s n hs hn)
def OkK (k : KK) : Prop := k.s.size ≤ maxLen ∧ (Lit.int .i64 k.n).wf = true
def kl (k : KK) : Lit := klit k.s k.n
theorem keyOfK {k : KK} (h : OkK k) : keyOf Tryz.prog 56 k.agg = some (kl k) := keyOf41 k.s k.n h.1 h.2
theorem kl_inj {k k' : KK} (h : OkK k) (h' : OkK k') (e : kl k = kl k') : k = k' := by
  obtain ⟨h1, h2⟩ := klit_inj h.1 h.2 h'.1 h'.2 e
  exact KK.ext' h1 h2
theorem kl_key {k : KK} (h : OkK k) : WideAt.IsKeyLit (kl k) := klit_key h.1 h.2
end Go.Proofs.YtcflglloopgieaaGreatDoor
