import Derived.Test.YtcflglloopgieaaGreatDoorQf
import Derived.Test.YtcflglloopgieaaGreatDoorQk
import Derived.Test.YtcflglloopgieaaGreatDoorQe
import Derived.Deep.MidRow
import Derived.Deep.AppendLies
import Derived.Deep.LoopGhost
import Derived.Deep.RegionHeld3
import Derived.Great.BuildSlice
import Derived.Laws.AppendOwnNone
import Derived.Laws.MakeOwn
import Derived.Laws.OwnMore
import Derived.Maps.OwnSet
import Derived.Maps.Own
import Derived.WalkKit
import Derived.WalkSpells
import Derived.Carry
import Derived.DeepKeys4
import Derived.Deep.Slices
import Derived.SizedLaws

/-! Ya -/
namespace Go.Proofs.YtcflglloopgieaaGreatDoor
open Go Go.Proofs Go.Maps Go.RowKit
set_option linter.unusedSimpArgs false
set_option linter.unusedVariables false
set_option maxHeartbeats 1000000
theorem heap_setCells (b : Nat) : ∀ (vs : List Value) (o : Nat) (X : World) (g : Nat), g ≠ b → (X.setCells b o vs).heap[g]? = X.heap[g]?
  | [], _, _, _, _ => rfl
  | v :: vs, o, X, g, h => by
    rw [World.setCells, heap_setCells b vs _ _ g h]
    simp [World.setCell, Array.getElem?_modify, Ne.symm h]
/-- Block B holds these cells, and may be written. -/
def Holds (W : World) (B : Nat) (cs : List Value) : Prop := (∀ j, W.frozen? ⟨B, j, none⟩ = false) ∧ W.rangeAt B 0 cs
theorem Holds.block {W W1 : World} {B : Nat} {cs : List Value} (h : Holds W B cs) (he : W1.heap[B]? = W.heap[B]?) : Holds W1 B cs := by
  have hc : ∀ j, W1.cell? ⟨B, j, none⟩ = W.cell? ⟨B, j, none⟩ := fun j => World.cell?_of_block he
  have hf : ∀ j, W1.frozen? ⟨B, j, none⟩ = W.frozen? ⟨B, j, none⟩ := fun j => World.frozen?_of_block he
  unfold Holds World.rangeAt at *
  simp only [hc, hf]
  exact h
theorem Holds.new (w : World) (cs : List Value) (t : TypeId) : Holds (w.alloc (Obj.cells cs.toArray t)) w.heap.size cs := by
  refine ⟨fun j => ?_, fun j v hv => ?_⟩
  · simp [go_sem]
  · simp [go_sem]
    exact hv
theorem Holds.cell {W : World} {B : Nat} {cs : List Value} (h : Holds W B cs) (p : Nat) {v : Value} (hp : cs[p]? = some v) : W.cell? ⟨B, p, none⟩ = some v := by
  have := h.2 p v hp
  simpa using this
theorem Holds.mid {W : World} {B : Nat} {cs : List Value} (h : Holds W B cs) (p n : Nat) : W.rangeAt B p ((cs.drop p).take n) := by
  intro j v hv
  rw [List.getElem?_take] at hv
  split at hv
  · rw [List.getElem?_drop] at hv
    exact h.cell (p + j) hv
  · cases hv
theorem Holds.there {W : World} {B : Nat} {cs : List Value} (h : Holds W B cs) (p n : Nat) (hp : p + n ≤ cs.length) : W.there B p n := by
  intro j hj
  refine ⟨?_, h.1 _⟩
  rw [h.cell (p + j) (List.getElem?_eq_getElem (by omega))]
  rfl
theorem Holds.lt {W : World} {B : Nat} {cs : List Value} (h : Holds W B cs) (hc : 0 < cs.length) : B < W.heap.size := by
  have h0 := h.cell 0 (List.getElem?_eq_getElem hc)
  rcases Nat.lt_or_ge B W.heap.size with h1 | h1
  · exact h1
  · exfalso
    have e : W.heap[B]? = none := Array.getElem?_eq_none h1
    simp [World.cell?, e] at h0
/-- Cells from p on are others. -/
def cput (cs : List Value) (p : Nat) (vs : List Value) : List Value := cs.take p ++ vs ++ cs.drop (p + vs.length)
theorem Holds.put {W : World} {B : Nat} {cs : List Value} (h : Holds W B cs) (p : Nat) (vs : List Value) (hp : p + vs.length ≤ cs.length) : Holds (W.setCells B p vs) B (cput cs p vs) := by
  refine ⟨fun j => by rw [World.frozen?_setCells]; exact h.1 j, fun j v hv => ?_⟩
  unfold cput at hv
  have hth := h.there p vs.length hp
  have e0 : (⟨B, 0 + j, none⟩ : Addr) = ⟨B, j, none⟩ := by simp
  rw [e0]
  by_cases h1 : j < p
  · rw [List.getElem?_append_left (by simp; omega), List.getElem?_append_left (by simp; omega), List.getElem?_take, if_pos h1] at hv
    rw [World.cell?_setCells_out B vs p W ⟨B, j, none⟩ (fun _ _ => Or.inl h1)]
    exact h.cell j hv
  · by_cases h2 : j < p + vs.length
    · rw [List.getElem?_append_left (by simp; omega), List.getElem?_append_right (by simp; omega)] at hv
      have h3 := World.rangeAt_setCells_same W B p vs hth (j - p) v (by simpa [Nat.min_eq_left (by omega : p ≤ cs.length)] using hv)
      rwa [show p + (j - p) = j by omega] at h3
    · rw [List.getElem?_append_right (by simp; omega), List.getElem?_drop] at hv
      rw [World.cell?_setCells_out B vs p W ⟨B, j, none⟩ (fun _ _ => Or.inr (by show p + vs.length ≤ j; omega))]
      refine h.cell j ?_
      rw [← hv]
      congr 1
      simp
      omega
section
variable {o : Oper} {a : Act} {W : World} {x : Operand} {B p : Nat} {cs : List Value}
theorem ex_load1 {v : Value} (t : TypeId) (hna : ∀ w, (isAgg t).run Tryz.prog w = .ok false w) (ho : o.op = .load t x) (hx : a.eval x = .pointer (some ⟨B, p, none⟩)) (hc : Holds W B cs) (hv : cs[p]? = some v) : (execOp a.eval o).run Tryz.prog W = .ok (.value v) W := by
  have h0 := hc.cell p hv
  unfold execOp
  simp only [ho, hx]
  simp [go_sem, h0, hna]
theorem ex_loadN {vs : List Value} (t : TypeId) (n : Nat) (hu : ∃ d, Tryz.prog.underlying t = some d ∧ d.isRow = true) (hi : (Tryz.prog.info? t).map (·.size) = some n) (ho : o.op = .load t x) (hx : a.eval x = .pointer (some ⟨B, p, none⟩)) (hc : Holds W B cs) (hv : (cs.drop p).take n = vs) (hn : vs.length = n) : (execOp a.eval o).run Tryz.prog W = .ok (.value (.agg vs.toArray)) W := by
  obtain ⟨d, hu, hd⟩ := hu
  have h0 := hc.mid p n
  rw [hv] at h0
  unfold execOp
  simp only [ho, hx, Instr.loadAt, Instr.sureAddr, Sem.run_bind, Sem.run_pure, Result.andThen_ok, run_loadVar_mid W B p t vs d h0 hu hd (by rw [hi, hn])]
end
theorem ex_loadC {o : Oper} {a : Act} {W : World} {x : Operand} {B p : Nat} {v : Value} (t : TypeId) (hna : ∀ w, (isAgg t).run Tryz.prog w = .ok false w) (ho : o.op = .load t x) (hx : a.eval x = .pointer (some ⟨B, p, none⟩)) (h0 : W.cell? ⟨B, p, none⟩ = some v) : (execOp a.eval o).run Tryz.prog W = .ok (.value v) W := by
  unfold execOp
  simp only [ho, hx]
  simp [go_sem, h0, hna]
theorem ex_loadR {o : Oper} {a : Act} {W : World} {x : Operand} {B p : Nat} {vs : List Value} (t : TypeId) (n : Nat) (hu : ∃ d, Tryz.prog.underlying t = some d ∧ d.isRow = true) (hi : (Tryz.prog.info? t).map (·.size) = some n) (ho : o.op = .load t x) (hx : a.eval x = .pointer (some ⟨B, p, none⟩)) (h0 : W.rangeAt B p vs) (hn : vs.length = n) : (execOp a.eval o).run Tryz.prog W = .ok (.value (.agg vs.toArray)) W := by
  obtain ⟨d, hu, hd⟩ := hu
  unfold execOp
  simp only [ho, hx, Instr.loadAt, Instr.sureAddr, Sem.run_bind, Sem.run_pure, Result.andThen_ok, run_loadVar_mid W B p t vs d h0 hu hd (by rw [hi, hn])]
theorem range_left {w : World} {b p : Nat} {a c : List Value} (h : w.rangeAt b p (a ++ c)) : w.rangeAt b p a := fun j v hv => h j v (by rw [List.getElem?_append_left (List.getElem?_eq_some_iff.1 hv).1]; exact hv)
theorem range_right {w : World} {b p : Nat} {a c : List Value} (h : w.rangeAt b p (a ++ c)) : w.rangeAt b (p + a.length) c := fun j v hv => by
  have := h (a.length + j) v (by rw [List.getElem?_append_right (by omega)]; simpa using hv)
  rwa [← Nat.add_assoc] at this
/-- Of what was there in w, X has other blocks at most at E. -/
structure Fr (w X : World) (E : List Nat) : Prop where
  os : X.os = w.os
  tape : X.tape = w.tape
  output : X.output = w.output
  size : w.heap.size ≤ X.heap.size
  block : ∀ b, b < w.heap.size → b ∉ E → X.heap[b]? = w.heap[b]?
theorem Fr.refl (w : World) (E : List Nat) : Fr w w E := ⟨rfl, rfl, rfl, Nat.le_refl _, fun _ _ _ => rfl⟩
theorem Fr.trans {w X Y : World} {E E' : List Nat} (h : Fr w X E) (k : Fr X Y E') (hE : ∀ b ∈ E', b ∈ E ∨ w.heap.size ≤ b) : Fr w Y E :=
  ⟨k.os.trans h.os, k.tape.trans h.tape, k.output.trans h.output, Nat.le_trans h.size k.size, fun b hb he =>
    (k.block b (Nat.lt_of_lt_of_le hb h.size) (fun he' => (hE b he').elim he (fun h2 => by omega))).trans (h.block b hb he)⟩
theorem Fr.of_below {w X : World} (h : Below w.heap.size w X) (E : List Nat) : Fr w X E := ⟨h.os, h.tape, h.output, h.size, fun b hb _ => h.block b hb⟩
theorem Fr.below {w X : World} (h : Fr w X []) : Below w.heap.size w X := ⟨h.os, h.tape, h.output, h.size, fun b hb => h.block b hb (by simp)⟩
theorem Fr.on {w X Y : World} {E : List Nat} (h : Fr w X E) (k : Below X.heap.size X Y) : Fr w Y E := h.trans (Fr.of_below k []) (by simp)
theorem Fr.mono {w X : World} {E E' : List Nat} (h : Fr w X E) (hE : ∀ b ∈ E, b ∈ E' ∨ w.heap.size ≤ b) : Fr w X E' := (Fr.refl w E').trans h hE
theorem Fr.drew {w X : World} {E : List Nat} (h : Fr w X E) : Fr w X.drew E := ⟨h.os, h.tape, h.output, h.size, h.block⟩
theorem Fr.alloc {w X : World} {E : List Nat} (h : Fr w X E) (o : Obj) : Fr w (X.alloc o) E := h.on ((Below.refl _ _).alloc (Nat.le_refl _) _)
theorem os_setCells (b : Nat) : ∀ (vs : List Value) (o : Nat) (X : World), (X.setCells b o vs).os = X.os ∧ (X.setCells b o vs).tape = X.tape ∧ (X.setCells b o vs).output = X.output
  | [], _, _ => ⟨rfl, rfl, rfl⟩
  | v :: vs, o, X => by
    obtain ⟨h1, h2, h3⟩ := os_setCells b vs (o + 1) (X.setCell ⟨b, o, none⟩ v)
    rw [World.setCells]
    exact ⟨h1, h2, h3⟩
theorem Fr.setCells (X : World) (b p : Nat) (vs : List Value) : Fr X (X.setCells b p vs) [b] :=
  ⟨(os_setCells b vs p X).1, (os_setCells b vs p X).2.1, (os_setCells b vs p X).2.2, by rw [size_setCells]; exact Nat.le_refl _, fun g _ hg => heap_setCells b vs p X g (by simpa using hg)⟩
theorem Fr.grown {X Y : World} {row : Option Nat} (h : X.grownBy Y row) : Fr X Y row.toList :=
  ⟨h.os, h.tape, h.output, h.size, fun b hb hE => h.block b hb (fun e => hE (by rw [← e]; simp))⟩
/-- Our blocks hold what they held; of what was there ahead only blocks of E may have changed. -/
structure Hq (w X : World) (E : List Nat) (L : List (Nat × List Value)) : Prop where
  fr : Fr w X E
  all : ∀ q ∈ L, Holds X q.1 q.2 ∧ 0 < q.2.length
  nd : (L.map (·.1)).Nodup
theorem Hq.nil (w : World) (E : List Nat) : Hq w w E [] := ⟨Fr.refl _ _, (fun q hq => by cases hq), by simp⟩
theorem Hq.lt {w X : World} {E : List Nat} {L : List (Nat × List Value)} (h : Hq w X E L) : ∀ q ∈ L, q.1 < X.heap.size := fun q hq => (h.all q hq).1.lt (h.all q hq).2
theorem Hq.get {w X : World} {E : List Nat} {L : List (Nat × List Value)} (h : Hq w X E L) (i : Nat) {b : Nat} {cs : List Value} (hi : L[i]? = some (b, cs)) : Holds X b cs := (h.all _ (List.mem_of_getElem? hi)).1
theorem Hq.drew {w X : World} {E : List Nat} {L : List (Nat × List Value)} (h : Hq w X E L) : Hq w X.drew E L := ⟨h.fr.drew, fun q hq => ⟨(h.all q hq).1.block rfl, (h.all q hq).2⟩, h.nd⟩
theorem Hq.on {w X Y : World} {E : List Nat} {L : List (Nat × List Value)} (h : Hq w X E L) (k : Below X.heap.size X Y) : Hq w Y E L :=
  ⟨h.fr.on k, fun q hq => ⟨(h.all q hq).1.block (k.block _ (h.lt q hq)), (h.all q hq).2⟩, h.nd⟩
theorem Hq.step {w X Y : World} {E E' : List Nat} {L : List (Nat × List Value)} (h : Hq w X E L) (k : Fr X Y E') (hE : ∀ b ∈ E', b ∈ E ∨ w.heap.size ≤ b) (hL : ∀ q ∈ L, q.1 ∉ E') : Hq w Y E L :=
  ⟨h.fr.trans k hE, fun q hq => ⟨(h.all q hq).1.block (k.block _ (h.lt q hq) (hL q hq)), (h.all q hq).2⟩, h.nd⟩
theorem Hq.add {w X : World} {E : List Nat} {L : List (Nat × List Value)} (h : Hq w X E L) {b : Nat} {cs : List Value} (hb : Holds X b cs) (hc : 0 < cs.length) (hn : ∀ q ∈ L, q.1 ≠ b) : Hq w X E (L ++ [(b, cs)]) := by
  refine ⟨h.fr, fun q hq => ?_, ?_⟩
  · rcases List.mem_append.1 hq with hq | hq
    · exact h.all q hq
    · obtain rfl : q = (b, cs) := by simpa using hq
      exact ⟨hb, hc⟩
  · rw [List.map_append, List.nodup_append]
    refine ⟨h.nd, by simp, fun x hx y hy => ?_⟩
    obtain ⟨q, hq, rfl⟩ := List.mem_map.1 hx
    obtain rfl : y = b := by simpa using hy
    exact hn q hq
theorem Hq.new {w X : World} {E : List Nat} {L : List (Nat × List Value)} (h : Hq w X E L) (cs : List Value) (t : TypeId) (hc : 0 < cs.length) : Hq w (X.alloc (Obj.cells cs.toArray t)) E (L ++ [(X.heap.size, cs)]) :=
  (h.on ((Below.refl _ _).alloc (Nat.le_refl _) _)).add (Holds.new X cs t) hc (fun q hq => Nat.ne_of_lt (h.lt q hq))
theorem Hq.put {w X : World} {E : List Nat} {L : List (Nat × List Value)} (h : Hq w X E L) (i : Nat) {b : Nat} {cs : List Value} (hi : L[i]? = some (b, cs)) (p : Nat) (vs : List Value) (hp : p + vs.length ≤ cs.length) (hE : b ∈ E ∨ w.heap.size ≤ b) : Hq w (X.setCells b p vs) E (L.set i (b, cput cs p vs)) := by
  have hil := (List.getElem?_eq_some_iff.1 hi).1
  have hie := (List.getElem?_eq_some_iff.1 hi).2
  have hH := h.get i hi
  have hlen : (cput cs p vs).length = cs.length := by simp [cput]; omega
  refine ⟨h.fr.trans (Fr.setCells X b p vs) (by simpa using hE), fun q hq => ?_, ?_⟩
  · rcases List.getElem?_of_mem hq with ⟨j, hj⟩
    rw [List.getElem?_set] at hj
    split at hj
    · rename_i e
      subst e
      obtain rfl := Option.some.inj hj
      have h1 := (h.all _ (List.mem_of_getElem? hi)).2
      exact ⟨hH.put p vs hp, by simpa [hlen] using h1⟩
    · rename_i e
      have hm := List.mem_of_getElem? hj
      refine ⟨(h.all q hm).1.block (heap_setCells b vs p X q.1 ?_), (h.all q hm).2⟩
      intro eb
      have hjl := (List.getElem?_eq_some_iff.1 hj).1
      have h1 : (L.map (·.1))[i]? = some b := by simp [hi]
      have h2 : (L.map (·.1))[j]? = some b := by simp [hj, eb]
      have := (List.getElem?_inj (by simpa using hil) h.nd).1 (h1.trans h2.symm)
      exact e this
  · have e : (L.set i (b, cput cs p vs)).map (·.1) = L.map (·.1) := by
      rw [List.map_set]
      apply List.ext_getElem?
      intro j
      rw [List.getElem?_set]
      split
      · rename_i e
        subst e
        simp [hil, hie]
      · rfl
    rw [e]
    exact h.nd
section
variable {md : Region.Mode} {ops : Array Oper} {rest : List Oper} {Q : Exit → Act → World → Prop} {S : World → Prop} {w w0 : World} {fuel : Nat} {listed : Array Bool} {a : Act} {o : Oper}
theorem gsem (i : Nat) (dst : Option Tmp) (v : Value) (hi : ops[i]? = some o) (hs : Region.noSelect ops = true) (hf : Region.free md ops listed i = true) (hr : (Region.ready md ops listed).contains i = true)
    (hQ : ∀ c a w, Q (.panic c) (a.put dst v) w → Q (.panic c) a w) (hd : o.dst = dst) (hw : Region.wanted o (yielded ops a.tmps) = true) (hy : ∀ X, S X → (execOp a.eval o).run Tryz.prog X = .ok (.value v) X)
    (hS : S w) (h : wpAnyH Tryz.prog md ops Q S fuel (listed.setIfInBounds i true) (a.put dst v) w) : wpAnyH Tryz.prog md ops Q S (fuel + 1) listed a w := by
  subst hd
  exact wpAnyH_take hi hs hf hr hQ (Or.inl ⟨hw, hy⟩) hS h
theorem rd {v : Value} (hw : Region.wanted o (yielded ops a.tmps) = true) (hy : (execOp a.eval o).run Tryz.prog w = .ok (.value v) w) (h : wpList Tryz.prog ops Q rest (a.put o.dst v) w) : wpList Tryz.prog ops Q (o :: rest) a w := by
  refine BigFrame.wpList_want hw fun K hK => ?_
  have hP := hK _ _ h
  unfold Oper.wp
  rw [hy]
  exact hP
theorem run_storeVar_any (w : World) (b p : Nat) (ty : TypeId) (v : Value) (vs : List Value) (hv : v.cells.toList = vs) (ht : w.there b p vs.length) (hi : (Tryz.prog.info? ty).map (·.size) = some vs.length) (h1 : ∀ u ∈ vs, u.oneCell' = true) :
    (storeVar ty ⟨b, p, none⟩ v).run Tryz.prog w = .ok () (w.setCells b p vs) := by
  have := run_storeCells_cells (P := Tryz.prog) b p vs 0 w (fun j hj => by simpa using (ht j hj).1) (fun j hj => by simpa using (ht j hj).2) h1
  cases hq : Tryz.prog.info? ty with
  | none => simp [hq] at hi
  | some i =>
    have hs : v.cells.size = i.size := by
      have e : v.cells.size = vs.length := by rw [← hv]; simp
      simp [hq] at hi; omega
    simp only [Nat.add_zero] at this
    simp [storeVar, sizeOf, typeInfo, hq, hs, hv, this]
theorem st {E : List Nat} {L : List (Nat × List Value)} {b p : Nat} {cs vs : List Value} {v : Value} {x y : Operand} (i : Nat) (t : TypeId) (hw : Region.wanted o (yielded ops a.tmps) = true) (ho : o.op = .store t x y) (hx : a.eval x = .pointer (some ⟨b, p, none⟩)) (hy : a.eval y = v)
    (hv : v.cells.toList = vs) (h1 : ∀ u ∈ vs, u.oneCell' = true) (hi : (Tryz.prog.info? t).map (·.size) = some vs.length) (hL : Hq w0 w E L) (hg : L[i]? = some (b, cs)) (hp : p + vs.length ≤ cs.length) (hE : b ∈ E ∨ w0.heap.size ≤ b)
    (h : ∀ X, Hq w0 X E (L.set i (b, cput cs p vs)) → Fr w X [b] → X.heap.size = w.heap.size → wpList Tryz.prog ops Q rest (a.put o.dst undef) X) : wpList Tryz.prog ops Q (o :: rest) a w := by
  refine BigFrame.wpList_want hw fun K hK => ?_
  have hP := hK _ _ (h _ (hL.put i hg p vs hp hE) (Fr.setCells w b p vs) (size_setCells _ _ _))
  unfold Oper.wp execOp
  simp only [ho, hx, hy, Instr.storeAt, Instr.sureAddr, Sem.run_bind, Sem.run_pure, Result.andThen_ok, run_storeVar_any w b p t v vs hv ((hL.get i hg).there p vs.length hp) hi h1]
  exact hP
theorem bx {E : List Nat} {L : List (Nat × List Value)} {v : Value} {x : Operand} (t : TypeId) (cs : List Value) (hw : Region.wanted o (yielded ops a.tmps) = true) (ho : o.op = .box t x) (hx : a.eval x = v) (hv : v.cells.toList = cs) (hc : 0 < cs.length) (hL : Hq w0 w E L)
    (h : ∀ X B, B = w.heap.size → Hq w0 X E (L ++ [(B, cs)]) → Below w.heap.size w X → wpList Tryz.prog ops Q rest (a.put o.dst (.pointer (some ⟨B, 0, none⟩))) X) : wpList Tryz.prog ops Q (o :: rest) a w := by
  refine BigFrame.wpList_want hw fun K hK => ?_
  have e : v.cells = cs.toArray := by rw [← hv]
  have hP := hK _ _ (h _ _ rfl (hL.new cs t hc) ((Below.refl _ _).alloc (Nat.le_refl _) _))
  have e2 : (Instr.box t v).run Tryz.prog w = .ok (.pointer (some ⟨w.heap.size, 0, none⟩)) (w.alloc (Obj.cells cs.toArray t)) := by rw [← e]; rfl
  unfold Oper.wp execOp
  simp only [ho, hx]
  simp [e2]
  exact hP
end
/-- append onto one's own row: the row's block is the old one, or a new one. -/
theorem append_fresh (w : World) (base : Nat) (t ty e : TypeId) (i : TypeInfo) (z : Value) (size bytes : Nat) (ht : Tryz.prog.underlying t = some (.slice e)) (hi : Tryz.prog.info? e = some i) (hz : i.zero = some z)
    (hsize : i.size = size) (hby : i.bytes = bytes) (hzs : z.cells.size = size) (hsz : 0 < size) (v : Value) (n : Nat) (xs : List Value) (hown : w.ownsRow base e size v n xs)
    (a : Addr) (m c : Nat) (news : List Value) (hl : news.length = m * size) (hnews : ∀ j u, news[j]? = some u → w.cell? (a.add j) = some u) (h1 : ∀ u ∈ news, u.oneCell' = true)
    (h63 : n + m ≤ maxLen) (hbytes : (n + m) * bytes ≤ 140737488355328) (hbase : base ≤ w.heap.size) :
    ∃ v' w', (Builtin.append_ #[t, t] ty #[v, .slice (some a) m c]).run Tryz.prog w = .ok v' w' ∧ w'.ownsRow base e size v' (n + m) (xs ++ news) ∧ w.grownBy w' v.ownBlock ∧ (v'.ownBlock = v.ownBlock ∨ v'.ownBlock = some w.heap.size) := by
  obtain ⟨v', w', hr, ho, hg, hiff⟩ := run_append_own w base t ty e i z size bytes ht hi hz hsize hby hzs hsz v n xs hown a m c news hl hnews h1 h63 hbytes hbase
  refine ⟨v', w', hr, ho, hg, ?_⟩
  have hm : n + m ≤ 9223372036854775807 := by simp only [maxLen] at h63; omega
  have inj : ∀ {v2 : Value} {w2 : World}, (Builtin.append_ #[t, t] ty #[v, .slice (some a) m c]).run Tryz.prog w = .ok v2 w2 → v' = v2 := fun h2 => by
    rw [hr] at h2
    injection h2
  subst hsize
  subst hby
  rcases hown.2 with ⟨rfl, rfl⟩ | ⟨g, cap, cur, rfl, hbg, hgg, hnc, hcm, hcs, htake⟩
  · by_cases h0 : m = 0
    · exact Or.inl (by rw [hiff.2 ⟨rfl, h0⟩])
    · right
      have hb := hbytes
      rw [Nat.zero_add] at hb
      rw [inj (run_append_nil w t ty e i z ht hi hz a m c news hl hnews (by omega) (by omega) (by omega))]
      rfl
  · by_cases hroom : n + m ≤ cap
    · left
      have hfit : n * i.size + news.length ≤ cur.size := by rw [hl, hcs, ← Nat.add_mul]; exact Nat.mul_le_mul_right _ hroom
      rw [inj (run_append_room w t ty e i ht hi g n cap cur hgg a m c news hl hnews h1 hroom hfit)]
      rfl
    · right
      rw [inj (run_append_grow w t ty e i z ht hi hz ⟨g, 0, none⟩ n cap xs hown.1 (hown.cells (g := g) rfl) a m c news hl hnews (by omega) (by omega) (growslice_fits (by omega) hbytes))]
      rfl
def Fresh (w : World) (v v' : Value) : Prop := v'.ownBlock = v.ownBlock ∨ v'.ownBlock = some w.heap.size
/-- Two rows whose blocks are not the same. -/
def Apart (v u : Value) : Prop := ∀ g, v.ownBlock = some g → u.ownBlock ≠ some g
theorem Apart.symm {v u : Value} (h : Apart v u) : Apart u v := fun g hu hv => h g hv hu
theorem Apart.fresh {w : World} {v v' u : Value} (h : Apart v u) (hf : Fresh w v v') (hu : ∀ g, u.ownBlock = some g → g < w.heap.size) : Apart v' u := by
  intro g hg he
  rcases hf with e | e
  · exact h g (e ▸ hg) he
  · rw [e] at hg
    have h1 := hu g he
    have h2 : w.heap.size = g := by simpa using hg
    omega
section
variable {md : Region.Mode} {ops : Array Oper} {rest : List Oper} {Q : Exit → Act → World → Prop} {S : World → Prop} {w w0 : World} {fuel : Nat} {listed : Array Bool} {a : Act} {o : Oper}
theorem own_form {w : World} {base e size n : Nat} {v : Value} {xs : List Value} (h : w.ownsRow base e size v n xs) : ∃ A c, v = .slice A n c := by
  rcases h.2 with ⟨rfl, rfl⟩ | ⟨g, cap, cur, rfl, -⟩
  · exact ⟨_, _, rfl⟩
  · exact ⟨_, _, rfl⟩
/-- append onto one's own row, of any type. -/
theorem append_any {t e : TypeId} {size bytes n m c B base : Nat} {z v : Value} {xs news : List Value} {s x : Operand} (hgd : o.guard = none) (ho : o.op = .call { callee := .builtin .append, args := #[s, x], argTypes := #[t, t] }) (hs : a.eval s = v) (hx : a.eval x = .slice (some ⟨B, 0, none⟩) m c)
    (ht : Tryz.prog.underlying t = some (.slice e)) (hi : (Tryz.prog.info? e).map (fun i => (i.zero, i.size, i.bytes)) = some (some z, size, bytes)) (hz : z.cells.size = size) (hsz : 0 < size) (hown : w.ownsRow base e size v n xs) (hB : Holds w B news) (hl : news.length = m * size) (h1 : ∀ u ∈ news, u.oneCell' = true)
    (hn : n + m ≤ 1000000) (hby : bytes ≤ 10000) (hbase : base ≤ w.heap.size)
    (h : ∀ A c w', w'.ownsRow base e size (.slice A (n + m) c) (n + m) (xs ++ news) → w.grownBy w' v.ownBlock → Fresh w v (.slice A (n + m) c) → wpList Tryz.prog ops Q rest (a.put o.dst (.slice A (n + m) c)) w') : wpList Tryz.prog ops Q (o :: rest) a w := by
  obtain ⟨i0, hi, hz0, hz1, hz2⟩ := info_parts hi
  refine wpList_plain hgd fun K hK => ?_
  obtain ⟨v', w', hrun, h2, h3, h4⟩ := append_fresh w base t o.type e i0 _ size bytes ht hi hz0 hz1 hz2 hz hsz v n xs hown ⟨B, 0, none⟩ m c news hl (fun j u hj => by
    rw [Addr.add_mid]
    exact hB.2 j u hj) h1 (by unfold maxLen; omega) (Nat.le_trans (Nat.mul_le_mul hn hby) (by decide)) hbase
  obtain ⟨A', c', rfl⟩ := own_form h2
  have hP := hK _ _ (h A' c' w' h2 h3 h4)
  unfold Oper.wp
  simp [execOp, ho, resolve, invoke, builtin, hs, hx, hrun, Result.andThen]
  exact hP
theorem fold_set (off : Nat) : ∀ (vs : List Value) (j : Nat) (z : Array Value), off + j + vs.length ≤ z.size →
    ((vs.zipIdx j).foldl (fun cs (c, j) => cs.setIfInBounds (off + j) c) z).toList = z.toList.take (off + j) ++ vs ++ z.toList.drop (off + j + vs.length)
  | [], j, z, h => by simp
  | v :: vs, j, z, h => by
    simp only [List.length_cons] at h
    rw [List.zipIdx_cons, List.foldl_cons, fold_set off vs (j + 1) (z.setIfInBounds (off + j) v) (by simp; omega)]
    have hj : off + j < z.toList.length := by simp; omega
    have e1 : (z.setIfInBounds (off + j) v).toList = z.toList.set (off + j) v := by simp
    rw [e1, show off + (j + 1) = off + j + 1 by omega]
    rw [List.take_set, List.drop_set_of_lt (by omega), List.take_succ_eq_append_getElem hj]
    simp only [List.length_cons]
    rw [show off + j + 1 + vs.length = off + j + (vs.length + 1) by omega]
    rw [List.set_append_right _ _ (by simp; omega)]
    have e2 : off + j - (z.toList.take (off + j)).length = 0 := by simp; omega
    rw [e2]
    simp
theorem fill_one (size : Nat) (z : Array Value) (v : Value) (hz : z.size = size) (hv : v.cells.size = size) : Instr.fill (fun i => some (i * size, size)) z [(0, v)] = some v.cells := by
  have e := fold_set 0 v.cells.toList 0 z (by simp; omega)
  unfold Instr.fill
  simp only [Nat.zero_mul]
  rw [if_neg (by simp; omega)]
  unfold Instr.fill
  congr 1
  apply Array.toList_inj.1
  have e3 : v.cells.zipIdx.foldl (fun cs (c, j) => cs.setIfInBounds (0 + j) c) z = (v.cells.toList.zipIdx 0).foldl (fun cs (c, j) => cs.setIfInBounds (0 + j) c) z := by
    rw [← Array.foldl_toList, Array.toList_zipIdx]
  rw [e3, e]
  simp
  omega
/-- A slice of one. -/
theorem build_any {t e : TypeId} {size bytes : Nat} {z v : Value} {cs : List Value} {x : Operand} {E : List Nat} {L : List (Nat × List Value)} (hw : Region.wanted o (yielded ops a.tmps) = true) (ho : o.op = .buildSlice t 1 #[(0, x)]) (hx : a.eval x = v)
    (ht : Tryz.prog.underlying t = some (.slice e)) (hi : (Tryz.prog.info? e).map (fun i => (i.zero, i.size, i.bytes)) = some (some z, size, bytes)) (hs1 : size ≤ 100) (hv : v.cells.toList = cs) (hc : cs.length = size) (h0 : 0 < size) (hL : Hq w0 w E L)
    (h : ∀ X B, B = w.heap.size → Hq w0 X E (L ++ [(B, cs)]) → Below w.heap.size w X → wpList Tryz.prog ops Q rest (a.put o.dst (.slice (some ⟨B, 0, none⟩) 1 1)) X) : wpList Tryz.prog ops Q (o :: rest) a w := by
  refine BigFrame.wpList_want hw fun K hK => ?_
  obtain ⟨i0, hi, hz0, hz1, hz2⟩ := info_parts hi
  have ev : v.cells = cs.toArray := by rw [← hv]
  have es : v.cells.size = size := by rw [ev]; simpa using hc
  refine wp_buildSlice t e 1 _ ho cs.toArray i0 _ ht hi hz0 (by rw [hz1]; omega) (by rw [hz1]; omega) ?_ (hK _ _ (h _ _ rfl (hL.new cs e (by omega)) ((Below.refl _ _).alloc (Nat.le_refl _) _)))
  rw [hz1, ← ev]
  simp only [List.map_toArray, List.map_cons, List.map_nil, hx]
  exact fill_one size _ v (by simp) es
theorem gval (i : Nat) (dst : Option Tmp) {V : Value} {X : World} {rs : List Nat} (hi : ops[i]? = some o) (hd : o.dst = dst) (hw : Region.wanted o (yielded ops a.tmps) = true) (he : (execOp a.eval o).run Tryz.prog w = .ok (.value V) X) (hSX : S X)
    (h : wpAnyH Tryz.prog md ops Q S fuel (listed.setIfInBounds i true) (a.put dst V) X) (hs : AllReadyH Tryz.prog md ops Q S fuel listed a w rs) : AllReadyH Tryz.prog md ops Q S fuel listed a w (i :: rs) := by
  subst hd
  refine AllReadyH.cons hi (fun K hK => ?_) hs
  rw [if_pos hw]
  unfold Oper.wp
  rw [he]
  exact hK.out _ _ hSX (fun _ => h)
theorem gskp (i : Nat) (dst : Option Tmp) {X : World} {rs : List Nat} (hi : ops[i]? = some o) (hd : o.dst = dst) (hw : Region.wanted o (yielded ops a.tmps) = true) (he : (execOp a.eval o).run Tryz.prog w = .ok .skip X) (hSX : S X)
    (h : wpAnyH Tryz.prog md ops Q S fuel (listed.setIfInBounds i true) (a.put dst undef) X) (hs : AllReadyH Tryz.prog md ops Q S fuel listed a w rs) : AllReadyH Tryz.prog md ops Q S fuel listed a w (i :: rs) := by
  subst hd
  refine AllReadyH.cons hi (fun K hK => ?_) hs
  rw [if_pos hw]
  unfold Oper.wp
  rw [he]
  exact hK.out _ _ hSX (fun _ => h)
theorem ex_box {v : Value} {x : Operand} (t : TypeId) (cs : List Value) (ho : o.op = .box t x) (hx : a.eval x = v) (hv : v.cells.toList = cs) : (execOp a.eval o).run Tryz.prog w = .ok (.value (.pointer (some ⟨w.heap.size, 0, none⟩))) (w.alloc (Obj.cells cs.toArray t)) := by
  have e : v.cells = cs.toArray := by rw [← hv]
  have e2 : (Instr.box t v).run Tryz.prog w = .ok (.pointer (some ⟨w.heap.size, 0, none⟩)) (w.alloc (Obj.cells cs.toArray t)) := by rw [← e]; rfl
  unfold execOp
  simp only [ho, hx]
  simp [e2]
theorem ex_store {t : TypeId} {b p : Nat} {cs vs : List Value} {v : Value} {x y : Operand} (ho : o.op = .store t x y) (hx : a.eval x = .pointer (some ⟨b, p, none⟩)) (hy : a.eval y = v) (hv : v.cells.toList = vs) (h1 : ∀ u ∈ vs, u.oneCell' = true) (hi : (Tryz.prog.info? t).map (·.size) = some vs.length) (hH : Holds w b cs) (hp : p + vs.length ≤ cs.length) :
    (execOp a.eval o).run Tryz.prog w = .ok .skip (w.setCells b p vs) := by
  unfold execOp
  simp only [ho, hx, hy, Instr.storeAt, Instr.sureAddr, Sem.run_bind, Sem.run_pure, Result.andThen_ok, run_storeVar_any w b p t v vs hv (hH.there p vs.length hp) hi h1]
theorem ex_buildS {t e : TypeId} {size bytes : Nat} {z v : Value} {cs : List Value} {x : Operand} (ho : o.op = .buildSlice t 1 #[(0, x)]) (hx : a.eval x = v)
    (ht : Tryz.prog.underlying t = some (.slice e)) (hi : (Tryz.prog.info? e).map (fun i => (i.zero, i.size, i.bytes)) = some (some z, size, bytes)) (hs1 : size ≤ 100) (hv : v.cells.toList = cs) (hc : cs.length = size) (h0 : 0 < size) :
    (execOp a.eval o).run Tryz.prog w = .ok (.value (.slice (some ⟨w.heap.size, 0, none⟩) 1 1)) (w.alloc (Obj.cells cs.toArray e)) := by
  obtain ⟨i0, hi, hz0, hz1, hz2⟩ := info_parts hi
  have ev : v.cells = cs.toArray := by rw [← hv]
  have es : v.cells.size = size := by rw [ev]; simpa using hc
  have hr := run_buildSlice w t e 1 #[(0, v)] cs.toArray i0 _ ht hi hz0 (by rw [hz1]; omega) (by rw [hz1]; omega) (by
    rw [hz1, ← ev]
    exact fill_one size _ v (by simp) es)
  unfold execOp
  simp only [ho, List.map_toArray, List.map_cons, List.map_nil, hx]
  simp [hr]
end
theorem own_len {w : World} {base e s n : Nat} {v : Value} {xs : List Value} (h : w.ownsRow base e s v n xs) : xs.length = n * s := h.1
theorem stx {ops : Array Oper} {rest : List Oper} {Q : Exit → Act → World → Prop} {w : World} {a : Act} {o : Oper} {t : TypeId} {b p : Nat} {cs vs : List Value} {v : Value} {x y : Operand} (hw : Region.wanted o (yielded ops a.tmps) = true) (ho : o.op = .store t x y) (hx : a.eval x = .pointer (some ⟨b, p, none⟩)) (hy : a.eval y = v) (hv : v.cells.toList = vs) (h1 : ∀ u ∈ vs, u.oneCell' = true) (hi : (Tryz.prog.info? t).map (·.size) = some vs.length) (hH : Holds w b cs) (hp : p + vs.length ≤ cs.length)
    (h : wpList Tryz.prog ops Q rest (a.put o.dst undef) (w.setCells b p vs)) : wpList Tryz.prog ops Q (o :: rest) a w := by
  refine BigFrame.wpList_want hw fun K hK => ?_
  have hP := hK _ _ h
  unfold Oper.wp
  rw [ex_store ho hx hy hv h1 hi hH hp]
  exact hP
theorem gcallR {md : Region.Mode} {ops : Array Oper} {Q : Exit → Act → World → Prop} {S : World → Prop} {w : World} {fuel : Nat} {listed : Array Bool} {a : Act} {o : Oper} (i : Nat) (dst : Option Tmp) {f : FuncId} {args : Array Value} {R : Ending → World → Prop} {rs : List Nat} (hi : ops[i]? = some o) (hd : o.dst = dst) (hw : Region.wanted o (yielded ops a.tmps) = true)
    (he : (execOp a.eval o).run Tryz.prog w = .ok (.enter f args) w) (hC : Calls Tryz.prog f args w R)
    (h : ∀ e X, R e X → ∃ V, e = .returned V ∧ S X ∧ wpAnyH Tryz.prog md ops Q S fuel (listed.setIfInBounds i true) (a.put dst V) X) (hs : AllReadyH Tryz.prog md ops Q S fuel listed a w rs) : AllReadyH Tryz.prog md ops Q S fuel listed a w (i :: rs) := by
  subst hd
  refine AllReadyH.cons hi (fun K hK => ?_) hs
  rw [if_pos hw]
  unfold Oper.wp
  rw [he, Oper.upon_enter]
  refine hC.mono ?_
  intro e X hR
  obtain ⟨V, rfl, hSX, hV⟩ := h e X hR
  exact hK.out _ _ hSX (fun _ => hV)
theorem below_dr {n : Nat} {a w : World} (h : Below n a w) : Below n a w.drew := ⟨h.os, h.tape, h.output, h.size, h.block⟩
theorem ex_appendF {a : Act} {w : World} {o : Oper} {t e : TypeId} {size bytes k m c B base : Nat} {z v : Value} {xs news : List Value} {s x : Operand} (ho : o.op = .call { callee := .builtin .append, args := #[s, x], argTypes := #[t, t] }) (hs : a.eval s = v) (hx : a.eval x = .slice (some ⟨B, 0, none⟩) m c)
    (ht : Tryz.prog.underlying t = some (.slice e)) (hi : (Tryz.prog.info? e).map (fun i => (i.zero, i.size, i.bytes)) = some (some z, size, bytes)) (hz : z.cells.size = size) (hsz : 0 < size) (hown : w.ownsRow base e size v k xs) (hB : Holds w B news) (hl : news.length = m * size) (h1 : ∀ u ∈ news, u.oneCell' = true)
    (hn : k + m ≤ 1000000) (hby : bytes ≤ 10000) (hbase : base ≤ w.heap.size) :
    ∃ A c' w', (execOp a.eval o).run Tryz.prog w = .ok (.value (.slice A (k + m) c')) w' ∧ w'.ownsRow base e size (.slice A (k + m) c') (k + m) (xs ++ news) ∧ w.grownBy w' v.ownBlock ∧ Fresh w v (.slice A (k + m) c') := by
  obtain ⟨i0, hi, hz0, hz1, hz2⟩ := info_parts hi
  obtain ⟨v', w', hrun, h2, h3, h4⟩ := append_fresh w base t o.type e i0 _ size bytes ht hi hz0 hz1 hz2 hz hsz v k xs hown ⟨B, 0, none⟩ m c news hl (fun j u hj => by
    rw [Addr.add_mid]
    exact hB.2 j u hj) h1 (by unfold maxLen; omega) (Nat.le_trans (Nat.mul_le_mul hn hby) (by decide)) hbase
  obtain ⟨A', c', rfl⟩ := own_form h2
  refine ⟨A', c', w', ?_, h2, h3, h4⟩
  simp [execOp, ho, resolve, invoke, builtin, hs, hx, hrun, Result.andThen]
theorem gappF {md : Region.Mode} {ops : Array Oper} {Q : Exit → Act → World → Prop} {S : World → Prop} {w : World} {fuel : Nat} {listed : Array Bool} {a : Act} {o : Oper} {rs : List Nat} (i : Nat) (dst : Option Tmp) {t e : TypeId} {size bytes k m c B base : Nat} {z v : Value} {xs news : List Value} {s x : Operand} (hi0 : ops[i]? = some o) (hd : o.dst = dst) (hw : Region.wanted o (yielded ops a.tmps) = true) (ho : o.op = .call { callee := .builtin .append, args := #[s, x], argTypes := #[t, t] }) (hs : a.eval s = v) (hx : a.eval x = .slice (some ⟨B, 0, none⟩) m c)
    (ht : Tryz.prog.underlying t = some (.slice e)) (hi : (Tryz.prog.info? e).map (fun i => (i.zero, i.size, i.bytes)) = some (some z, size, bytes)) (hz : z.cells.size = size) (hsz : 0 < size) (hown : w.ownsRow base e size v k xs) (hB : Holds w B news) (hl : news.length = m * size) (h1 : ∀ u ∈ news, u.oneCell' = true)
    (hn : k + m ≤ 1000000) (hby : bytes ≤ 10000) (hbase : base ≤ w.heap.size) (hon : ∀ X, w.grownBy X v.ownBlock → S X)
    (h : ∀ A c' X, X.ownsRow base e size (.slice A (k + m) c') (k + m) (xs ++ news) → w.grownBy X v.ownBlock → Fresh w v (.slice A (k + m) c') → wpAnyH Tryz.prog md ops Q S fuel (listed.setIfInBounds i true) (a.put dst (.slice A (k + m) c')) X) (hs2 : AllReadyH Tryz.prog md ops Q S fuel listed a w rs) : AllReadyH Tryz.prog md ops Q S fuel listed a w (i :: rs) := by
  obtain ⟨A, c', w', he, h2, h3, h4⟩ := ex_appendF ho hs hx ht hi hz hsz hown hB hl h1 hn hby hbase
  exact gval i dst hi0 hd hw he (hon w' h3) (h A c' w' h2 h3 h4) hs2
theorem ex_appendG {a : Act} {w : World} {o : Oper} {t e : TypeId} {size bytes k m c B off base : Nat} {z v : Value} {xs news : List Value} {s x : Operand} (ho : o.op = .call { callee := .builtin .append, args := #[s, x], argTypes := #[t, t] }) (hs : a.eval s = v) (hx : a.eval x = .slice (some ⟨B, off, none⟩) m c)
    (ht : Tryz.prog.underlying t = some (.slice e)) (hi : (Tryz.prog.info? e).map (fun i => (i.zero, i.size, i.bytes)) = some (some z, size, bytes)) (hz : z.cells.size = size) (hsz : 0 < size) (hown : w.ownsRow base e size v k xs) (hB : w.rangeAt B off news) (hl : news.length = m * size) (h1 : ∀ u ∈ news, u.oneCell' = true)
    (hn : k + m ≤ 1000000) (hby : bytes ≤ 10000) (hbase : base ≤ w.heap.size) :
    ∃ A c' w', (execOp a.eval o).run Tryz.prog w = .ok (.value (.slice A (k + m) c')) w' ∧ w'.ownsRow base e size (.slice A (k + m) c') (k + m) (xs ++ news) ∧ w.grownBy w' v.ownBlock ∧ Fresh w v (.slice A (k + m) c') := by
  obtain ⟨i0, hi, hz0, hz1, hz2⟩ := info_parts hi
  obtain ⟨v', w', hrun, h2, h3, h4⟩ := append_fresh w base t o.type e i0 _ size bytes ht hi hz0 hz1 hz2 hz hsz v k xs hown ⟨B, off, none⟩ m c news hl (fun j u hj => by
    rw [Addr.add_mid]
    exact hB j u hj) h1 (by unfold maxLen; omega) (Nat.le_trans (Nat.mul_le_mul hn hby) (by decide)) hbase
  obtain ⟨A', c', rfl⟩ := own_form h2
  refine ⟨A', c', w', ?_, h2, h3, h4⟩
  simp [execOp, ho, resolve, invoke, builtin, hs, hx, hrun, Result.andThen]
theorem gappG {md : Region.Mode} {ops : Array Oper} {Q : Exit → Act → World → Prop} {S : World → Prop} {w : World} {fuel : Nat} {listed : Array Bool} {a : Act} {o : Oper} {rs : List Nat} (i : Nat) (dst : Option Tmp) {t e : TypeId} {size bytes k m c B off base : Nat} {z v : Value} {xs news : List Value} {s x : Operand} (hi0 : ops[i]? = some o) (hd : o.dst = dst) (hw : Region.wanted o (yielded ops a.tmps) = true) (ho : o.op = .call { callee := .builtin .append, args := #[s, x], argTypes := #[t, t] }) (hs : a.eval s = v) (hx : a.eval x = .slice (some ⟨B, off, none⟩) m c)
    (ht : Tryz.prog.underlying t = some (.slice e)) (hi : (Tryz.prog.info? e).map (fun i => (i.zero, i.size, i.bytes)) = some (some z, size, bytes)) (hz : z.cells.size = size) (hsz : 0 < size) (hown : w.ownsRow base e size v k xs) (hB : w.rangeAt B off news) (hl : news.length = m * size) (h1 : ∀ u ∈ news, u.oneCell' = true)
    (hn : k + m ≤ 1000000) (hby : bytes ≤ 10000) (hbase : base ≤ w.heap.size) (hon : ∀ X, w.grownBy X v.ownBlock → S X)
    (h : ∀ A c' X, X.ownsRow base e size (.slice A (k + m) c') (k + m) (xs ++ news) → w.grownBy X v.ownBlock → Fresh w v (.slice A (k + m) c') → wpAnyH Tryz.prog md ops Q S fuel (listed.setIfInBounds i true) (a.put dst (.slice A (k + m) c')) X) (hs2 : AllReadyH Tryz.prog md ops Q S fuel listed a w rs) : AllReadyH Tryz.prog md ops Q S fuel listed a w (i :: rs) := by
  obtain ⟨A, c', w', he, h2, h3, h4⟩ := ex_appendG ho hs hx ht hi hz hsz hown hB hl h1 hn hby hbase
  exact gval i dst hi0 hd hw he (hon w' h3) (h A c' w' h2 h3 h4) hs2
/-- make of a slice of length nought. -/
theorem mk_any {ops : Array Oper} {rest : List Oper} {Q : Exit → Act → World → Prop} {w : World} {a : Act} {o : Oper} {t e : TypeId} {size bytes : Nat} {z : Value} {c x : Operand} (n : Nat) (hw : Region.wanted o (yielded ops a.tmps) = true) (ho : o.op = .makeSlice t c x) (hc : a.eval c = .int .i64 0) (hx : a.eval x = .int .i64 (n : Nat))
    (ht : Tryz.prog.underlying t = some (.slice e)) (hi : (Tryz.prog.info? e).map (fun i => (i.zero, i.size, i.bytes)) = some (some z, size, bytes)) (hn : n ≤ 100000) (hs : size ≤ 100) (hby : bytes ≤ 10000)
    (h : ∀ wm, wm.ownsRow w.heap.size e size (.slice (some ⟨w.heap.size, 0, none⟩) 0 n) 0 [] → Below w.heap.size w wm → wpList Tryz.prog ops Q rest (a.put o.dst (.slice (some ⟨w.heap.size, 0, none⟩) 0 n)) wm) : wpList Tryz.prog ops Q (o :: rest) a w := by
  obtain ⟨i0, hi, hz0, hz1, hz2⟩ := info_parts hi
  obtain ⟨wm, hrun, hm1, hm2⟩ := run_makeSlice_owned (P := Tryz.prog) w w.heap.size t e i0 _ size ht hi hz0 hz1 .i64 .i64 n (Nat.le_trans (Nat.mul_le_mul hn hs) (by decide)) (by rw [hz2]; exact Nat.le_trans (Nat.mul_le_mul hby hn) (by decide)) (by unfold maxLen; omega) (Nat.le_refl _)
  refine BigFrame.wpList_want hw fun K hK => ?_
  have hP := hK _ _ (h wm hm1 ⟨hm2.os, hm2.tape, hm2.output, hm2.size, fun k hk => hm2.block k hk (by simp)⟩)
  unfold Oper.wp execOp
  simp only [ho, hc, hx]
  simp [hrun]
  exact hP
theorem own_mono {w : World} {base base' e s n : Nat} {v : Value} {xs : List Value} (h : w.ownsRow base e s v n xs) (hb : base' ≤ base) : w.ownsRow base' e s v n xs := by
  obtain ⟨h1, h2⟩ := h
  refine ⟨h1, ?_⟩
  rcases h2 with h2 | ⟨g, cap, cur, rfl, h3, h4⟩
  · exact .inl h2
  · exact .inr ⟨g, cap, cur, rfl, Nat.le_trans hb h3, h4⟩
theorem ex_indexG {o : Oper} {a : Act} {w : World} {x ix : Operand} {g off n cap : Nat} (t : TypeId) (sz j : Nat) (hk : Tryz.prog.underlying t = some (.slice (Tryz.prog.elem t))) (he : ∀ w, (sizeOf (Tryz.prog.elem t)).run Tryz.prog w = .ok sz w) (ho : o.op = .indexAddr t x ix) (hx : a.eval x = .slice (some ⟨g, off, none⟩) n cap) (hix : a.eval ix = .int .i64 (j : Nat)) (hj : j < n) : (execOp a.eval o).run Tryz.prog w = .ok (.value (.pointer (some ⟨g, off + j * sz, none⟩))) w := by
  have h1 : (Instr.indexAt t (.slice (some ⟨g, off, none⟩) n cap) (.int .i64 (j : Nat))).run Tryz.prog w = .ok (.pointer (some ⟨g, off + j * sz, none⟩)) w := by
    rw [run_indexAt_slice (h := hk), if_pos ⟨by omega, by omega⟩, he]
    have e2 : (Addr.add ⟨g, off, none⟩ ((j : Int).toNat * sz)) = ⟨g, off + j * sz, none⟩ := by
      rw [Addr.add_mid]
      simp
    show Result.ok (Value.pointer (some (Addr.add ⟨g, off, none⟩ ((j : Int).toNat * sz)))) w = _
    rw [e2]
  unfold execOp
  simp only [ho, hx, hix]
  simp [h1]
end Go.Proofs.YtcflglloopgieaaGreatDoor

/-! Ob -/
namespace Go.Proofs.YtcflglloopgieaaGreatDoor
open Go Go.Proofs Go.Maps Go.RowKit
set_option linter.unusedSimpArgs false
set_option linter.unusedVariables false
/-- A key. -/
structure KK where
  s : ByteArray
  n : Int
def keyV (s : ByteArray) (n : Int) : Value := .agg #[.string s, .int .i64 n]
def KK.agg (k : KK) : Value := .agg #[.string k.s, .int .i64 k.n]
def KK.cs (k : KK) : List Value := [.string k.s, .int .i64 k.n]
theorem KK.ext' {a b : KK} (h1 : a.s = b.s) (h2 : a.n = b.n) : a = b := by cases a; cases b; cases h1; cases h2; rfl
theorem agg_key (k : KK) : keyV k.s k.n = k.agg := rfl
theorem below_alloc1 (w : World) (o : Obj) : Below w.heap.size w (w.alloc o) := (Below.refl _ _).alloc (Nat.le_refl _) _
section
attribute [local go_sem] bits_run run_store_float
/-- The value that a key is. -/
def kVal (s : ByteArray) (n : Int) : VV := if n = 0 then ⟨5, false, 0, s, 0⟩ else ⟨6, false, 0, s, n⟩
theorem kbelow2 (w : World) (o1 o2 : Obj) : Below w.heap.size w ((w.alloc o1).alloc o2) := ((Below.refl _ _).alloc (Nat.le_refl _) _).alloc (by simp) _
end
theorem laidOut : laidOutB Tryz.prog = true := by kernel_rfl
theorem rowk41 : (56 : TypeId) < Tryz.prog.types.size := of_decide_eq_true (by kernel_rfl)
theorem key41 : Tryz.prog.keyTypeAt 2 56 = true := by kernel_rfl
theorem law41 : Keyed Tryz.prog 56 := Keyed.of_law (deep_law_laid laidOut (m := 2) (by omega) rowk41 key41 (by rw [Tryz.underlying56]))
theorem keyT41 : Tryz.prog.keyType 56 = true := by kernel_rfl
theorem size_types' : decide ((1 : Nat) ≤ Tryz.prog.types.size) = true := by kernel_rfl
theorem size_types : ∃ n : Nat, Tryz.prog.types.size + 1 = n + 2 := by
  have h : (1 : Nat) ≤ Tryz.prog.types.size := of_decide_eq_true size_types'
  generalize Tryz.prog.types.size = m at h
  exact ⟨m - 1, by omega⟩
/-- What a key reads as. -/
def klit (s : ByteArray) (n : Int) : Lit := .string (keyBytes [.string s.data.toList, .int .i64 n])
theorem keyOf41 (s : ByteArray) (n : Int) (hs : s.size ≤ maxLen) (hn : (Lit.int .i64 n).wf = true) : keyOf Tryz.prog 56 (.agg #[.string s, .int .i64 n]) = some (klit s n) := by
  obtain ⟨N, hN⟩ := size_types
  unfold keyOf
  rw [Tryz.underlying56]
  simp only []
  rw [hN]
  have c41 : Tryz.prog.cellsOf 56 = 2 := by kernel_rfl
  have hf : Value.formed Tryz.prog 56 (.agg #[.string s, .int .i64 n]) = true := by
    simp [Value.formed, Tryz.underlying56, Tryz.underlying3, Tryz.underlying9, c41]
  have c9 : Tryz.prog.cellsOf 9 = 1 := by kernel_rfl
  have c3 : Tryz.prog.cellsOf 3 = 1 := by kernel_rfl
  rw [hf, keyT41]
  simp [Program.keyLits, Tryz.underlying56, Tryz.underlying3, Tryz.underlying9, c9, c3, c41, hs, hn, Value.cells, klit]
theorem klit_inj {s s' : ByteArray} {n n' : Int} (hs : s.size ≤ maxLen) (hn : (Lit.int .i64 n).wf = true) (hs' : s'.size ≤ maxLen) (hn' : (Lit.int .i64 n').wf = true) (h : klit s n = klit s' n') : s = s' ∧ n = n' := by
  have := law41.inj (keyOf41 s n hs hn) (h ▸ keyOf41 s' n' hs' hn')
  simpa using this
theorem klit_key {s : ByteArray} {n : Int} (hs : s.size ≤ maxLen) (hn : (Lit.int .i64 n).wf = true) : WideAt.IsKeyLit (klit s n) := law41.key (keyOf41 s n hs hn)
def OkK (k : KK) : Prop := k.s.size ≤ maxLen ∧ (Lit.int .i64 k.n).wf = true
def kl (k : KK) : Lit := klit k.s k.n
theorem keyOfK {k : KK} (h : OkK k) : keyOf Tryz.prog 56 k.agg = some (kl k) := keyOf41 k.s k.n h.1 h.2
theorem kl_inj {k k' : KK} (h : OkK k) (h' : OkK k') (e : kl k = kl k') : k = k' := by
  obtain ⟨h1, h2⟩ := klit_inj h.1 h.2 h'.1 h'.2 e
  exact KK.ext' h1 h2
theorem kl_key {k : KK} (h : OkK k) : WideAt.IsKeyLit (kl k) := klit_key h.1 h.2
end Go.Proofs.YtcflglloopgieaaGreatDoor

/-! Oc -/
namespace Go.Proofs.YtcflglloopgieaaGreatDoor
open Go Go.Proofs Go.Maps Go.RowKit FM
set_option linter.unusedSimpArgs false
set_option linter.unusedVariables false
set_option maxHeartbeats 1000000
theorem alG {ops : Array Oper} {rest : List Oper} {Q : Exit → Act → World → Prop} {w w0 : World} {a : Act} {o : Oper} {E : List Nat} {L : List (Nat × List Value)} (t : TypeId) (cs : List Value) (hw : Region.wanted o (yielded ops a.tmps) = true) (ho : o.op = .alloc t) (hz : ∀ w, (zeroValue t).run Tryz.prog w = .ok (.agg cs.toArray) w) (hc : 0 < cs.length) (hL : Hq w0 w E L)
    (h : ∀ X B, B = w.heap.size → Hq w0 X E (L ++ [(B, cs)]) → Below w.heap.size w X → wpList Tryz.prog ops Q rest (a.put o.dst (.pointer (some ⟨B, 0, none⟩))) X) : wpList Tryz.prog ops Q (o :: rest) a w := by
  refine BigFrame.wpList_want hw fun K hK => ?_
  have hP := hK _ _ (h _ _ rfl (hL.new cs t hc) ((Below.refl _ _).alloc (Nat.le_refl _) _))
  unfold Oper.wp execOp
  simp only [ho]
  simp [go_sem, hz, Value.cells]
  exact hP
theorem ret_c {fn : Func} {R : Ending → World → Prop} {a : Act} {w : World} {b r T n : Nat} {cs : List Value} (hT : ∃ d, Tryz.prog.underlying T = some d ∧ d.isRow = true) (hn : (Tryz.prog.info? T).map (·.size) = some n) (hr : fn.results = #[.cell r T]) (hdf : a.defers = [])
    (hx : a.tmps.getD r undef = .pointer (some ⟨b, 0, none⟩)) (hc : Holds w b cs) (hcs : cs.length = n) (h : R (.returned (.agg cs.toArray)) w) : bodyPost Tryz.prog fn R .ret a w := by
  obtain ⟨t, hu, hd⟩ := hT
  have h0 := hc.mid 0 n
  rw [List.drop_zero, List.take_of_length_le (by omega)] at h0
  have hl := run_loadVar_mid (P := Tryz.prog) w b 0 T _ t h0 hu hd (by rw [hn, hcs])
  refine ⟨hdf, _, ?_, h⟩
  simp only [Array.getD_eq_getD_getElem?] at hx
  unfold results
  simp [hr, hx, hl, asAddr]
  try rfl
theorem ex_lenG {o : Oper} {a : Act} {w : World} {m : Operand} {A : Option Addr} {n c : Nat} (t e : TypeId) (ht : Tryz.prog.underlying t = some (.slice e)) (ho : o.op = .call { callee := .builtin .len, args := #[m], argTypes := #[t] }) (hm : a.eval m = .slice A n c) : (execOp a.eval o).run Tryz.prog w = .ok (.value (.int .i64 (n : Nat))) w := by
  simp [execOp, ho, resolve, invoke, builtin, hm, Builtin.len_, Result.andThen, goInt, ht, run_underlying ht]
theorem ex_eqYes {o : Oper} {a : Act} {w : World} {x y : Operand} {n m : Int} (ho : o.op = .binOp .eql 3 x y 3) (hx : a.eval x = .int .i64 n) (hc : a.eval y = .int .i64 m) (h : n = m) : (execOp a.eval o).run Tryz.prog w = .ok (.value (.bool true)) w := by
  unfold execOp
  simp only [ho, hx, hc]
  simp [go_sem, eqGuard, h]
theorem rangeAt_fr {w X : World} {b p : Nat} {cs : List Value} (h : w.rangeAt b p cs) (hb : b < w.heap.size) (hf : Fr w X []) : X.rangeAt b p cs := fun j v hv => by
  have e := h j v hv
  have h1 := hf.block b hb (by simp)
  unfold World.cell? at e ⊢
  dsimp only at e ⊢
  rw [h1]
  exact e
theorem ex_eqNo {o : Oper} {a : Act} {w : World} {x y : Operand} {n m : Int} (ho : o.op = .binOp .eql 3 x y 3) (hx : a.eval x = .int .i64 n) (hc : a.eval y = .int .i64 m) (h : n ≠ m) : (execOp a.eval o).run Tryz.prog w = .ok (.value (.bool false)) w := by
  unfold execOp
  simp only [ho, hx, hc]
  simp [go_sem, eqGuard, h]
theorem row25 : ∃ d, Tryz.prog.underlying 31 = some d ∧ d.isRow = true := ⟨_, Tryz.underlying31, rfl⟩
theorem siz25 : (Tryz.prog.info? 31).map (·.size) = some 5 := by kernel_rfl
theorem row28 : ∃ d, Tryz.prog.underlying 34 = some d ∧ d.isRow = true := ⟨_, Tryz.underlying34, rfl⟩
theorem siz28 : (Tryz.prog.info? 34).map (·.size) = some 8 := by kernel_rfl
theorem row44 : ∃ d, Tryz.prog.underlying 59 = some d ∧ d.isRow = true := ⟨_, Tryz.underlying59, rfl⟩
theorem siz44 : (Tryz.prog.info? 59).map (·.size) = some 18 := by kernel_rfl
theorem row46 : ∃ d, Tryz.prog.underlying 61 = some d ∧ d.isRow = true := ⟨_, Tryz.underlying61, rfl⟩
theorem siz46 : (Tryz.prog.info? 61).map (·.size) = some 20 := by kernel_rfl
theorem row41 : ∃ d, Tryz.prog.underlying 56 = some d ∧ d.isRow = true := ⟨_, Tryz.underlying56, rfl⟩
theorem siz41 : (Tryz.prog.info? 56).map (·.size) = some 2 := by kernel_rfl
theorem siz3 : (Tryz.prog.info? 3).map (·.size) = some 1 := by kernel_rfl
theorem siz22 : (Tryz.prog.info? 22).map (·.size) = some 1 := by kernel_rfl
theorem siz26 : (Tryz.prog.info? 32).map (·.size) = some 1 := by kernel_rfl
theorem idx22 (w : World) : (sizeOf (Tryz.prog.elem 22)).run Tryz.prog w = .ok 8 w := by kernel_rfl
theorem und22 : Tryz.prog.underlying 22 = some (.slice (Tryz.prog.elem 22)) := by kernel_rfl
theorem idx26 (w : World) : (sizeOf (Tryz.prog.elem 32)).run Tryz.prog w = .ok 20 w := by kernel_rfl
theorem und26 : Tryz.prog.underlying 32 = some (.slice (Tryz.prog.elem 32)) := by kernel_rfl
/-- A property: its key, and its descriptor. -/
structure PR where
  k : KK
  d : DD
def PR.cs (p : PR) : List Value := p.k.cs ++ p.d.cs
def PR.agg (p : PR) : Value := .agg p.cs.toArray
/-- A shape: class, prototype, extensible, properties. -/
structure SH where
  c : Int
  p : VV
  x : Bool
  ps : List PR
def SH.cs (s : SH) (A : Option Addr) (cap : Nat) : List Value := [.int .i64 s.c] ++ s.p.cs ++ [.bool s.x, .slice A s.ps.length cap]
def SH.agg (s : SH) (A : Option Addr) (cap : Nat) : Value := .agg (s.cs A cap).toArray
theorem pcs_length (p : PR) : p.cs.length = 20 := rfl
theorem shcs_length (p : SH) (A : Option Addr) (cap : Nat) : (p.cs A cap).length = 8 := rfl
theorem vagg (v : VV) : v.agg = .agg v.cs.toArray := rfl
theorem dagg (v : DD) : v.agg = .agg v.cs.toArray := rfl
theorem kagg (v : KK) : v.agg = .agg v.cs.toArray := rfl
theorem pcs_one (p : PR) : ∀ u ∈ p.cs, u.oneCell' = true := by simp [PR.cs, KK.cs, DD.cs, Value.oneCell']
theorem shcs_one (p : SH) (A : Option Addr) (cap : Nat) : ∀ u ∈ p.cs A cap, u.oneCell' = true := by simp [SH.cs, VV.cs, Value.oneCell']
theorem vcs_one (v : VV) : ∀ u ∈ v.cs, u.oneCell' = true := by simp [VV.cs, Value.oneCell']
def OkP (p : PR) : Prop := FD p.d ∧ OkK p.k
/-- A slice whose elements are these properties. -/
def ReadsP (w : World) (A : Option Addr) (l : List PR) : Prop := ∀ j p, l[j]? = some p → OkP p ∧ ∃ b off, A = some ⟨b, off, none⟩ ∧ b < w.heap.size ∧ w.rangeAt b (off + j * 20) p.cs
/-- A slice whose elements are these shapes. -/
def ReadsS (w : World) (A : Option Addr) (l : List SH) : Prop := ∀ j s, l[j]? = some s → s.p.x < 2 ^ 64 ∧ s.ps.length ≤ 733007751850 ∧ ∃ b off SA cap, A = some ⟨b, off, none⟩ ∧ b < w.heap.size ∧ ReadsP w SA s.ps ∧ w.rangeAt b (off + j * 8) (s.cs SA cap)
theorem ReadsP.fr {w X : World} {A : Option Addr} {l : List PR} (h : ReadsP w A l) (hf : Fr w X []) : ReadsP X A l := fun j p hp => by
  obtain ⟨h1, b, off, h2, h3, h4⟩ := h j p hp
  exact ⟨h1, b, off, h2, Nat.lt_of_lt_of_le h3 hf.size, rangeAt_fr h4 h3 hf⟩
theorem ReadsS.fr {w X : World} {A : Option Addr} {l : List SH} (h : ReadsS w A l) (hf : Fr w X []) : ReadsS X A l := fun j p hp => by
  obtain ⟨h1, h6, b, off, SA, cap, h2, h3, h5, h4⟩ := h j p hp
  exact ⟨h1, h6, b, off, SA, cap, h2, Nat.lt_of_lt_of_le h3 hf.size, h5.fr hf, rangeAt_fr h4 h3 hf⟩
end Go.Proofs.YtcflglloopgieaaGreatDoor

/-! Od -/
namespace Go.Proofs.YtcflglloopgieaaGreatDoor
open Go Go.Proofs Go.Maps Go.RowKit FM
set_option linter.unusedSimpArgs false
set_option linter.unusedVariables false
instance decK : DecidableEq KK := fun a b => decidable_of_iff (a.s = b.s ∧ a.n = b.n) ⟨fun h => KK.ext' h.1 h.2, fun h => h ▸ ⟨rfl, rfl⟩⟩
def zeroP : PR := ⟨⟨⟨#[]⟩, 0⟩, zeroD⟩
def zeroS : SH := ⟨0, zeroV, false, []⟩
set_option linter.unusedSimpArgs false
set_option linter.unusedVariables false
set_option maxHeartbeats 1000000
theorem Hq.left {w X : World} {E : List Nat} {L M : List (Nat × List Value)} (h : Hq w X E (L ++ M)) : Hq w X E L := ⟨h.fr, fun q hq => h.all q (List.mem_append_left _ hq), by
  have := h.nd
  rw [List.map_append] at this
  exact (List.nodup_append.1 this).1⟩
theorem Holds.far {X Y : World} {b g : Nat} {cs : List Value} (h : Holds X b cs) (hb : b < X.heap.size) (hf : Fr X Y [g]) (hn : b ≠ g) : Holds Y b cs := h.block (hf.block b hb (by simpa using hn))
set_option linter.unusedSimpArgs false
set_option linter.unusedVariables false
set_option maxHeartbeats 1000000
theorem Hq.change {w X Y : World} {E : List Nat} {g : Nat} {cs cs' : List Value} {L : List (Nat × List Value)} (h : Hq w X E ((g, cs) :: L)) (hf : Fr X Y [g]) (hh : Holds Y g cs') (hc : 0 < cs'.length) (hg : w.heap.size ≤ g) : Hq w Y E ((g, cs') :: L) := by
  have hnd := h.nd
  simp only [List.map_cons, List.nodup_cons] at hnd
  refine ⟨h.fr.trans hf (fun b hb => .inr (by obtain rfl : b = g := (by simpa using hb); exact hg)), fun q hq => ?_, by simpa using hnd⟩
  rcases List.mem_cons.1 hq with rfl | hq
  · exact ⟨hh, hc⟩
  · have h1 := h.all q (List.mem_cons_of_mem _ hq)
    have hne : q.1 ≠ g := fun e => hnd.1 (e ▸ List.mem_map_of_mem hq)
    exact ⟨h1.1.far (h1.1.lt h1.2) hf hne, h1.2⟩
end Go.Proofs.YtcflglloopgieaaGreatDoor

/-! Ol -/
namespace Go.Proofs.YtcflglloopgieaaGreatDoor
open Go Go.Proofs Go.Maps Go.RowKit FM
set_option linter.unusedSimpArgs false
set_option linter.unusedVariables false
set_option maxHeartbeats 1000000
theorem range_mid {w : World} {b p : Nat} {cs : List Value} (h : w.rangeAt b p cs) (k n : Nat) : w.rangeAt b (p + k) ((cs.drop k).take n) := by
  intro j v hv
  rw [List.getElem?_take] at hv
  split at hv
  · rw [List.getElem?_drop] at hv
    have := h (k + j) v hv
    rwa [show p + (k + j) = p + k + j by omega] at this
  · cases hv
theorem eql41 (a b : KK) (w : World) : (binOp .eql 56 a.agg b.agg).run Tryz.prog w = .ok (.bool (decide (a = b))) w := by
  unfold KK.agg
  have ht : Tryz.prog.underlying 56 = some (.struct (Tryz.prog.fieldsOf 56)) := by kernel_rfl
  rw [run_eql_struct, show (10000 : Nat) = 9998 + 1 + 1 from rfl, run_equalIn_struct _ _ _ _ _ ht (by kernel_rfl)]
  have hf : Tryz.prog.fieldsOf 56 = (match Tryz.prog.underlying 56 with | some (.struct f) => f | _ => #[]) := by kernel_rfl
  rw [hf, Tryz.underlying56]
  simp [Op.eqFields, go_sem, part]
  by_cases h1 : a.s.toList = b.s.toList
  · by_cases h2 : a.n = b.n
    · rw [if_pos h1, if_pos h2, decide_eq_true (KK.ext' (toList_inj h1) h2)]
    · rw [if_pos h1, if_neg h2, decide_eq_false (fun e : a = b => h2 (congrArg KK.n e))]
  · rw [if_neg h1, decide_eq_false (fun e : a = b => h1 (congrArg (fun z : KK => z.s.toList) e))]
theorem ex_eql41 {o : Oper} {a : Act} {w : World} {x y : Operand} (k q : KK) (ho : o.op = .binOp .eql 56 x y 56) (hx : a.eval x = k.agg) (hy : a.eval y = q.agg) : (execOp a.eval o).run Tryz.prog w = .ok (.value (.bool (decide (k = q)))) w := by
  have e := eql41 k q w
  have e2 : (eqGuard .eql 56 x y k.agg q.agg).run Tryz.prog w = .ok () w := by kernel_rfl
  unfold execOp
  simp only [ho, hx, hy]
  simp [e, e2]
end Go.Proofs.YtcflglloopgieaaGreatDoor

/-! Or -/
namespace Go.Proofs.YtcflglloopgieaaGreatDoor
open Go Go.Proofs Go.Maps Go.RowKit FM
set_option linter.unusedSimpArgs false
set_option linter.unusedVariables false
set_option maxHeartbeats 1000000
theorem flat_len {α : Type} (f : α → List Value) (k : Nat) (hk : ∀ a, (f a).length = k) : ∀ l : List α, (l.flatMap f).length = l.length * k
  | [] => by simp
  | d :: l => by
    rw [List.flatMap_cons, List.length_append, hk, flat_len f k hk l, List.length_cons, Nat.add_mul, Nat.one_mul, Nat.add_comm]
theorem flat_get {α : Type} (f : α → List Value) (k : Nat) (hk : ∀ a, (f a).length = k) : ∀ (l : List α) (j t : Nat) (hj : j < l.length), t < k → (l.flatMap f)[j * k + t]? = (f l[j])[t]?
  | [], j, t, hj, _ => by simp at hj
  | d :: l, 0, t, hj, ht => by
    rw [List.flatMap_cons, Nat.zero_mul, Nat.zero_add, List.getElem?_append_left (by rw [hk]; exact ht)]
    simp
  | d :: l, j + 1, t, hj, ht => by
    have e : (j + 1) * k + t - k = j * k + t := by rw [Nat.add_mul]; omega
    rw [List.flatMap_cons, List.getElem?_append_right (by rw [hk, Nat.add_mul]; omega), hk, e, flat_get f k hk l j t (by simpa using hj) ht]
    simp
theorem own_row {α : Type} {f : α → List Value} {k : Nat} (hk : ∀ a, (f a).length = k) {W : World} {base T n : Nat} {v : Value} {l : List α} (h : W.ownsRow base T k v n (l.flatMap f)) (hn : l.length = n) (j : Nat) (hj : j < l.length) : ∃ g c, v = .slice (some ⟨g, 0, none⟩) n c ∧ base ≤ g ∧ g < W.heap.size ∧ W.rangeAt g (0 + j * k) (f l[j]) := by
  rcases h.2 with ⟨h1, h0⟩ | ⟨g, cap, cur, h1, h2, h3, h4, h5, h6, h7⟩
  · omega
  · refine ⟨g, cap, h1, h2, (Array.getElem?_eq_some_iff.1 h3).1, fun t u hu => ?_⟩
    have ht : t < k := by
      have := (List.getElem?_eq_some_iff.1 hu).1
      rwa [hk] at this
    have hlt : j * k + t < n * k := by
      have : (j + 1) * k ≤ n * k := Nat.mul_le_mul_right k (by omega)
      rw [Nat.add_mul] at this
      omega
    have h8 : (cur.toList.take (n * k))[j * k + t]? = (l.flatMap f)[j * k + t]? := by rw [h7]
    rw [List.getElem?_take, if_pos hlt, flat_get f k hk l j t hj ht, hu] at h8
    have e2 : cur[j * k + t]? = some u := by simpa using h8
    rw [Nat.zero_add]
    simp [World.cell?, h3, e2]
theorem own_blk {w w' : World} {base e s n : Nat} {v : Value} {xs : List Value} (h : w.ownsRow base e s v n xs) (he : ∀ g, v.ownBlock = some g → w'.heap[g]? = w.heap[g]?) : w'.ownsRow base e s v n xs := by
  obtain ⟨h1, h2⟩ := h
  refine ⟨h1, ?_⟩
  rcases h2 with h2 | ⟨g, cap, cur, rfl, h3, h4, h5⟩
  · exact .inl h2
  · exact .inr ⟨g, cap, cur, rfl, h3, (he g rfl).trans h4, h5⟩
theorem own_fr {w w' : World} {base e s n : Nat} {v : Value} {xs : List Value} (h : w.ownsRow base e s v n xs) (hf : Fr w w' []) : w'.ownsRow base e s v n xs := own_blk h (fun g hg => hf.block g (World.ownsRow.lt h g hg).2 (by simp))
theorem ReadsP.far {X Y : World} {A : Option Addr} {l : List PR} {E : List Nat} (h : ReadsP X A l) (hf : Fr X Y E) (hE : ∀ b off, A = some ⟨b, off, none⟩ → b ∉ E) : ReadsP Y A l := fun j p hp => by
  obtain ⟨h1, b, off, h2, h3, h4⟩ := h j p hp
  refine ⟨h1, b, off, h2, Nat.lt_of_lt_of_le h3 hf.size, fun t v hv => ?_⟩
  have e := h4 t v hv
  have hb := hf.block b h3 (hE b off h2)
  unfold World.cell? at e ⊢
  dsimp only at e ⊢
  rw [hb]
  exact e
/-- A slice whose elements are these shapes; a nil row of properties has no room. -/
def ReadsT (w : World) (A : Option Addr) (l : List SH) : Prop := ∀ j s, l[j]? = some s → s.p.x < 2 ^ 64 ∧ s.ps.length ≤ 733007751850 ∧ ∃ b off SA cap, A = some ⟨b, off, none⟩ ∧ b < w.heap.size ∧ ReadsP w SA s.ps ∧ w.rangeAt b (off + j * 8) (s.cs SA cap) ∧ (SA = none → cap = 0)
theorem ReadsT.s {w : World} {A : Option Addr} {l : List SH} (h : ReadsT w A l) : ReadsS w A l := fun j s hs => by
  obtain ⟨h1, h2, b, off, SA, cap, h3, h4, h5, h6, -⟩ := h j s hs
  exact ⟨h1, h2, b, off, SA, cap, h3, h4, h5, h6⟩
def flatP (l : List PR) : List Value := l.flatMap PR.cs
theorem flatP_one (l : List PR) : ∀ u ∈ flatP l, u.oneCell' = true := by
  intro u hu
  obtain ⟨p, -, hp⟩ := List.mem_flatMap.1 hu
  exact pcs_one p u hp
theorem own_readsP {W : World} {base : Nat} {A : Option Addr} {c : Nat} {l : List PR} (hok : ∀ p ∈ l, OkP p) (h : W.ownsRow base 61 20 (.slice A l.length c) l.length (flatP l)) : ReadsP W A l := fun j p hp => by
  have hj := (List.getElem?_eq_some_iff.1 hp).1
  obtain ⟨g, c', h1, h2, h3, h4⟩ := own_row pcs_length h rfl j hj
  cases h1
  have e : l[j] = p := (List.getElem?_eq_some_iff.1 hp).2
  rw [e] at h4
  exact ⟨hok p (List.mem_of_getElem? hp), g, 0, rfl, h3, h4⟩
theorem inf46 : (Tryz.prog.info? 61).map (fun i => (i.zero, i.size, i.bytes)) = some (some zeroP.agg, 20, 192) := by kernel_rfl
theorem inf28 : (Tryz.prog.info? 34).map (fun i => (i.zero, i.size, i.bytes)) = some (some (zeroS.agg none 0), 8, 88) := by kernel_rfl
theorem none26 (w : World) : (Instr.buildSlice 32 0 #[]).run Tryz.prog w = .ok (.slice (some ⟨w.heap.size, 0, none⟩) 0 0) (w.alloc (Obj.cells #[] 61)) := by kernel_rfl
section
variable {ops : Array Oper} {rest : List Oper} {Q : Exit → Act → World → Prop} {a : Act} {w : World} {o : Oper}
theorem noneG (t e : TypeId) (size : Nat) (base : Nat) (hb : base ≤ w.heap.size) (hw : Region.wanted o (yielded ops a.tmps) = true) (ho : o.op = .buildSlice t 0 #[]) (hr : ∀ w, (Instr.buildSlice t 0 #[]).run Tryz.prog w = .ok (.slice (some ⟨w.heap.size, 0, none⟩) 0 0) (w.alloc (Obj.cells #[] e)))
    (h : ∀ X B, B = w.heap.size → X.ownsRow base e size (.slice (some ⟨B, 0, none⟩) 0 0) 0 [] → Below w.heap.size w X → wpList Tryz.prog ops Q rest (a.put o.dst (.slice (some ⟨B, 0, none⟩) 0 0)) X) : wpList Tryz.prog ops Q (o :: rest) a w := by
  refine BigFrame.wpList_want hw fun K hK => ?_
  have hP := hK _ _ (h (w.alloc (Obj.cells #[] e)) w.heap.size rfl ⟨by simp, .inr ⟨w.heap.size, 0, #[], rfl, hb, (MapKept.heap_alloc w _).1, Nat.le_refl _, Nat.zero_le _, by simp, by simp⟩⟩ ((Below.refl _ _).alloc (Nat.le_refl _) _))
  have he : (execOp a.eval o).run Tryz.prog w = .ok (.value (.slice (some ⟨w.heap.size, 0, none⟩) 0 0)) (w.alloc (Obj.cells #[] e)) := by
    unfold execOp
    simp only [ho, List.map_toArray, List.map_nil]
    simp [hr w]
  unfold Oper.wp
  rw [he]
  exact hP
/-- A row of properties, copied. -/
theorem app_P {c B base : Nat} {A : Option Addr} {l : List PR} {s x : Operand} (hw : Region.wanted o (yielded ops a.tmps) = true) (ho : o.op = .call { callee := .builtin .append, args := #[s, x], argTypes := #[32, 32] }) (hs : a.eval s = .slice (some ⟨B, 0, none⟩) 0 0) (hx : a.eval x = .slice A l.length c)
    (hown : w.ownsRow base 61 20 (.slice (some ⟨B, 0, none⟩) 0 0) 0 []) (hR : ReadsP w A l) (hc : A = none → c = 0) (hn : l.length ≤ 733007751850) (hbase : base ≤ w.heap.size) (av : Nat) (hav : B ≠ av) (hal : av < w.heap.size)
    (h : ∀ A' c' X, X.ownsRow base 61 20 (.slice A' l.length c') l.length (flatP l) → Fr w X [B] → (∀ g, (Value.slice A' l.length c').ownBlock = some g → g ≠ av) → wpList Tryz.prog ops Q rest (a.put o.dst (.slice A' l.length c')) X) : wpList Tryz.prog ops Q (o :: rest) a w := by
  obtain ⟨i0, hi', hz0, hz1, hz2⟩ := info_parts inf46
  cases A with
  | none =>
    have hl : l = [] := by
      cases l with
      | nil => rfl
      | cons p r =>
        obtain ⟨_, b, off, h1, _⟩ := hR 0 p rfl
        cases h1
    subst hl
    have hc0 := hc rfl
    subst hc0
    have hrun := run_append_owned_none (P := Tryz.prog) (w := w) base 32 o.type 61 i0 20 Tryz.underlying32 hi' (.slice (some ⟨B, 0, none⟩) 0 0) 0 [] hown
    refine BigFrame.wpList_want hw fun K hK => ?_
    have hP := hK _ _ (h _ _ w hown (Fr.refl _ _) (fun g hg => by obtain rfl : B = g := Option.some.inj hg; exact hav))
    unfold Oper.wp
    have hx' : a.eval x = .slice none 0 0 := hx
    simp [execOp, ho, resolve, invoke, builtin, hs, hx', hrun, Result.andThen]
    exact hP
  | some ad =>
    have hnews : ∀ j u, (flatP l)[j]? = some u → w.cell? (ad.add j) = some u := fun j u hu => by
      have hj := (List.getElem?_eq_some_iff.1 hu).1
      unfold flatP at hj hu
      rw [flat_len PR.cs 20 pcs_length] at hj
      have hq : j / 20 < l.length := by omega
      obtain ⟨_, b, off, h1, h2, h3⟩ := hR (j / 20) l[j / 20] (List.getElem?_eq_getElem hq)
      cases h1
      have e : j = j / 20 * 20 + j % 20 := by omega
      have h4 : (l.flatMap PR.cs)[j / 20 * 20 + j % 20]? = (l[j / 20]).cs[j % 20]? := flat_get PR.cs 20 pcs_length l (j / 20) (j % 20) hq (by omega)
      rw [← e, hu] at h4
      have h5 := h3 (j % 20) u h4.symm
      rw [Addr.add_mid]
      rwa [show off + j / 20 * 20 + j % 20 = off + j by omega] at h5
    obtain ⟨v', X, hrun, h2, h3, h4⟩ := append_fresh w base 32 o.type 61 i0 _ 20 192 Tryz.underlying32 hi' hz0 hz1 hz2 rfl (by omega) (.slice (some ⟨B, 0, none⟩) 0 0) 0 [] hown ad l.length c (flatP l) (flat_len PR.cs 20 pcs_length l) hnews (flatP_one l) (by unfold maxLen; omega) (by omega) hbase
    rw [Nat.zero_add, List.nil_append] at h2
    obtain ⟨A', c', hf⟩ := own_form h2
    subst hf
    refine BigFrame.wpList_want hw fun K hK => ?_
    have hP := hK _ _ (h A' c' X h2 (Fr.grown h3) (fun g hg => by
      rcases h4 with h5 | h5
      · rw [h5] at hg
        obtain rfl : B = g := Option.some.inj hg
        exact hav
      · rw [h5] at hg
        have : w.heap.size = g := Option.some.inj hg
        omega))
    unfold Oper.wp
    simp [execOp, ho, resolve, invoke, builtin, hs, hx, hrun, Result.andThen]
    exact hP
end
/-- A shape of the copy, and where its properties lie. -/
structure CE where
  s : SH
  A : Option Addr
  cap : Nat
def CE.cs (e : CE) : List Value := e.s.cs e.A e.cap
theorem ce_length (e : CE) : e.cs.length = 8 := rfl
/-- So much of the copy stands. -/
structure CRow (w wr : World) (l : List SH) (cv : Value) (cl : List CE) : Prop where
  own : wr.ownsRow w.heap.size 34 8 cv cl.length (cl.flatMap CE.cs)
  all : ∀ (j : Nat) (e : CE), cl[j]? = some e → l[j]? = some e.s ∧ ReadsP wr e.A e.s.ps
  off : ∀ e : CE, e ∈ cl → ∀ b o, e.A = some ⟨b, o, none⟩ → b < wr.heap.size ∧ cv.ownBlock ≠ some b
  fr : Fr w wr []
theorem CRow.nil (w : World) (l : List SH) : CRow w w l (.slice none 0 0) [] := ⟨⟨rfl, .inl ⟨rfl, rfl⟩⟩, fun j e he => by simp at he, fun e he => by simp at he, Fr.refl _ _⟩
theorem CRow.on {w wr X : World} {l : List SH} {cv : Value} {cl : List CE} (h : CRow w wr l cv cl) (hf : Fr wr X []) : CRow w X l cv cl :=
  ⟨own_fr h.own hf, fun j e he => ⟨(h.all j e he).1, (h.all j e he).2.fr hf⟩, fun e he b o hb => ⟨Nat.lt_of_lt_of_le (h.off e he b o hb).1 hf.size, (h.off e he b o hb).2⟩, h.fr.trans hf (by simp)⟩
theorem CRow.snoc {w X Y : World} {l : List SH} {cv cv' : Value} {cl : List CE} {e : CE} (h : CRow w X l cv cl) (ho : Y.ownsRow w.heap.size 34 8 cv' (cl.length + 1) (cl.flatMap CE.cs ++ e.cs)) (hg : X.grownBy Y cv.ownBlock) (hfr : Fresh X cv cv') (hl : l[cl.length]? = some e.s) (hp : ReadsP X e.A e.s.ps) (he : ∀ b o, e.A = some ⟨b, o, none⟩ → b < X.heap.size ∧ cv.ownBlock ≠ some b) : CRow w Y l cv' (cl ++ [e]) := by
  have hF : Fr X Y cv.ownBlock.toList := Fr.grown hg
  have hnew : ∀ b, b < X.heap.size → cv.ownBlock ≠ some b → cv'.ownBlock ≠ some b := fun b hb hc h2 => by
    rcases hfr with h3 | h3
    · exact hc (h3 ▸ h2)
    · rw [h3] at h2
      have : X.heap.size = b := Option.some.inj h2
      omega
  have hE : ∀ b, cv.ownBlock ≠ some b → b ∉ cv.ownBlock.toList := fun b hc hm => hc (by simpa using hm)
  refine ⟨by rw [List.length_append, List.flatMap_append]; simpa using ho, fun j q hq => ?_, fun q hq b o hb => ?_, h.fr.trans hF (fun b hb => .inr ?_)⟩
  · rcases Nat.lt_or_ge j cl.length with h1 | h1
    · rw [List.getElem?_append_left h1] at hq
      have h2 := h.all j q hq
      exact ⟨h2.1, h2.2.far hF (fun b o hb => hE b (h.off q (List.mem_of_getElem? hq) b o hb).2)⟩
    · rw [List.getElem?_append_right h1] at hq
      have h3 := (List.getElem?_eq_some_iff.1 hq).1
      have h4 : j = cl.length := by simp at h3; omega
      subst h4
      rw [Nat.sub_self] at hq
      obtain rfl : e = q := by simpa using hq
      exact ⟨hl, hp.far hF (fun b o hb => hE b (he b o hb).2)⟩
  · rcases List.mem_append.1 hq with h1 | h1
    · have h2 := h.off q h1 b o hb
      exact ⟨Nat.lt_of_lt_of_le h2.1 hF.size, hnew b h2.1 h2.2⟩
    · obtain rfl : q = e := by simpa using h1
      have h2 := he b o hb
      exact ⟨Nat.lt_of_lt_of_le h2.1 hF.size, hnew b h2.1 h2.2⟩
  · have hb2 : cv.ownBlock = some b := by simpa using hb
    exact (World.ownsRow.lt h.own b hb2).1
theorem CRow.reads {w wr : World} {l : List SH} {cv : Value} {cl : List CE} (h : CRow w wr l cv cl) (hl : cl.length = l.length) (hx : ∀ (j : Nat) (s : SH), l[j]? = some s → s.p.x < 2 ^ 64 ∧ s.ps.length ≤ 733007751850) : ∃ A c, cv = .slice A l.length c ∧ ReadsS wr A l := by
  obtain ⟨A, c, hf⟩ := own_form h.own
  refine ⟨A, c, by rw [hf, hl], fun j s hs => ?_⟩
  have hj : j < cl.length := by
    rw [hl]
    exact (List.getElem?_eq_some_iff.1 hs).1
  have he : cl[j]? = some cl[j] := List.getElem?_eq_getElem hj
  obtain ⟨h1, h2⟩ := h.all j _ he
  have e1 : cl[j].s = s := Option.some.inj (h1.symm.trans hs)
  obtain ⟨g, c2, h3, h4, h5, h6⟩ := own_row ce_length h.own rfl j hj
  rw [hf] at h3
  cases h3
  have h7 : wr.rangeAt g (0 + j * 8) (s.cs cl[j].A cl[j].cap) := e1 ▸ h6
  exact ⟨(hx j s hs).1, (hx j s hs).2, g, 0, cl[j].A, cl[j].cap, rfl, h5, e1 ▸ h2, h7⟩
end Go.Proofs.YtcflglloopgieaaGreatDoor

/-! Ot -/
namespace Go.Proofs.YtcflglloopgieaaGreatDoor
open Go.WideShapes Go.ChangeShapes Go Go.Proofs Go.Maps Go.RowKit FM
set_option linter.unusedSimpArgs false
set_option linter.unusedVariables false
set_option maxHeartbeats 1000000
theorem cellsOf44 : Tryz.prog.cellsOf 59 = 18 := by kernel_rfl
theorem cellsOf42 : Tryz.prog.cellsOf 57 = 1 := by kernel_rfl
theorem cellsOf41 : Tryz.prog.cellsOf 56 = 2 := by kernel_rfl
theorem cellsOf46 : Tryz.prog.cellsOf 61 = 20 := by kernel_rfl
theorem cellsOf28 : Tryz.prog.cellsOf 34 = 8 := by kernel_rfl
theorem cellsOf26 : Tryz.prog.cellsOf 32 = 1 := by kernel_rfl
section
variable {H : Type} {enc : TypeId × Value → H} {W : World} {base : Nat} {sp : Nat → Bool} {held : Bool} {m : Nat} {t : TypeId} {x : DataW H × List MemPlace}
set_option maxRecDepth 100000 in
theorem cells_desc' {f0 f1 f2 f3 f4 f5 : Field} {cs : List Value} (hs : Tryz.prog.underlying t = some (.struct #[f0, f1, f2, f3, f4, f5])) (hC : Tryz.prog.cellsOf t = 18)
    (o0 : f0.offset = 0) (o1 : f1.offset = 5) (o2 : f2.offset = 10) (o3 : f3.offset = 15) (o4 : f4.offset = 16) (o5 : f5.offset = 17)
    (t0 : f0.type = 31) (t1 : f1.type = 31) (t2 : f2.type = 31) (t3 : f3.type = 57) (t4 : f4.type = 57) (t5 : f5.type = 57)
    (h : DataW.trod enc Tryz.prog W base sp held m t cs = some x) : ∃ d : DD, cs = d.cs ∧ FD d := by
  obtain ⟨xs, n, _, rfl, hl, hlen, hf⟩ := DataW.trod_struct hs h
  rw [hC] at hl
  match cs, hl with
  | [c0, c1, c2, c3, c4, c5, c6, c7, c8, c9, c10, c11, c12, c13, c14, c15, c16, c17], _ =>
    have h0 := hf 0 _ rfl
    have h1 := hf 1 _ rfl
    have h2 := hf 2 _ rfl
    have h3 := hf 3 _ rfl
    have h4 := hf 4 _ rfl
    have h5 := hf 5 _ rfl
    simp [t0, t1, t2, t3, t4, t5, o0, o1, o2, o3, o4, o5, cellsOf24, cellsOf42] at h0 h1 h2 h3 h4 h5 hlen
    have g : ∀ j, j < 6 → ∃ y, xs[j]? = some y := fun j hj => ⟨_, List.getElem?_eq_getElem (by omega)⟩
    obtain ⟨y0, e0⟩ := g 0 (by omega)
    obtain ⟨y1, e1⟩ := g 1 (by omega)
    obtain ⟨y2, e2⟩ := g 2 (by omega)
    obtain ⟨y3, e3⟩ := g 3 (by omega)
    obtain ⟨y4, e4⟩ := g 4 (by omega)
    obtain ⟨y5, e5⟩ := g 5 (by omega)
    rw [e0] at h0
    rw [e1] at h1
    rw [e2] at h2
    rw [e3] at h3
    rw [e4] at h4
    rw [e5] at h5
    obtain ⟨v, q0, x0, z0, -⟩ := cells_value h0
    obtain ⟨g, q1, x1, -⟩ := cells_value h1
    obtain ⟨s, q2, x2, -⟩ := cells_value h2
    obtain ⟨a, q3, -⟩ := cell_int Tryz.underlying57 h3
    obtain ⟨e, q4, -⟩ := cell_int Tryz.underlying57 h4
    obtain ⟨c, q5, -⟩ := cell_int Tryz.underlying57 h5
    simp only [List.cons.injEq] at q0 q1 q2
    obtain ⟨rfl, rfl, rfl, rfl, rfl, -⟩ := q0
    obtain ⟨rfl, rfl, rfl, rfl, rfl, -⟩ := q1
    obtain ⟨rfl, rfl, rfl, rfl, rfl, -⟩ := q2
    subst q3 q4 q5
    exact ⟨⟨v, g, s, a, e, c⟩, rfl, x0, x1, x2⟩
set_option maxRecDepth 100000 in
theorem cells_desc {cs : List Value} (h : DataW.trod enc Tryz.prog W base sp held m 59 cs = some x) : ∃ d : DD, cs = d.cs ∧ FD d :=
  cells_desc' Tryz.underlying59 cellsOf44 rfl rfl rfl rfl rfl rfl rfl rfl rfl rfl rfl rfl h
set_option maxRecDepth 100000 in
theorem cells_key' {f0 f1 : Field} {cs : List Value} (hs : Tryz.prog.underlying t = some (.struct #[f0, f1])) (hC : Tryz.prog.cellsOf t = 2) (o0 : f0.offset = 0) (o1 : f1.offset = 1) (t0 : f0.type = 9) (t1 : f1.type = 3)
    (h : DataW.trod enc Tryz.prog W base sp held m t cs = some x) : ∃ k : KK, cs = k.cs ∧ OkK k := by
  obtain ⟨xs, n, _, rfl, hl, hlen, hf⟩ := DataW.trod_struct hs h
  rw [hC] at hl
  match cs, hl with
  | [c0, c1], _ =>
    have h0 := hf 0 _ rfl
    have h1 := hf 1 _ rfl
    simp [t0, t1, o0, o1, cellsOf9, cellsOf3] at h0 h1 hlen
    have g : ∀ j, j < 2 → ∃ y, xs[j]? = some y := fun j hj => ⟨_, List.getElem?_eq_getElem (by omega)⟩
    obtain ⟨y0, e0⟩ := g 0 (by omega)
    obtain ⟨y1, e1⟩ := g 1 (by omega)
    rw [e0] at h0
    rw [e1] at h1
    obtain ⟨s, rfl, hs1, -⟩ := cell_string Tryz.underlying9 h0
    obtain ⟨n, rfl, hn1, -⟩ := cell_int Tryz.underlying3 h1
    exact ⟨⟨s, n⟩, rfl, hs1, hn1⟩
set_option maxRecDepth 100000 in
theorem cells_key {cs : List Value} (h : DataW.trod enc Tryz.prog W base sp held m 56 cs = some x) : ∃ k : KK, cs = k.cs ∧ OkK k :=
  cells_key' Tryz.underlying56 cellsOf41 rfl rfl rfl rfl h
set_option maxRecDepth 100000 in
theorem cells_prop {cs : List Value} (h : DataW.trod enc Tryz.prog W base sp held m 61 cs = some x) : ∃ p : PR, cs = p.cs ∧ OkP p := by
  obtain ⟨y0, y1, n, rfl, hl, h0, h1⟩ := trod_struct2 Tryz.underlying61 h
  rw [cellsOf46] at hl
  simp only [cellsOf41, cellsOf44, List.drop_zero] at h0 h1
  obtain ⟨k, hk, hok⟩ := cells_key h0
  obtain ⟨d, hd, hfd⟩ := cells_desc h1
  refine ⟨⟨k, d⟩, ?_, hfd, hok⟩
  show cs = k.cs ++ d.cs
  rw [← hk, ← hd]
  have e : (cs.drop 2).take 18 = cs.drop 2 := List.take_of_length_le (by simp [hl])
  rw [e, List.take_append_drop]
end
theorem add_plain (b o i : Nat) : (Addr.add ⟨b, o, none⟩ i) = ⟨b, o + i, none⟩ := by
  unfold Addr.add
  by_cases h : i = 0
  · subst h; simp
  · simp [h]
theorem cell_spot' {w : World} {b o : Nat} {sp : Option Nat} {v : Value} (h : w.cell? ⟨b, o, sp⟩ = some v) : sp = none ∧ b < w.heap.size := by
  constructor
  · cases sp with
    | none => rfl
    | some s =>
      simp only [World.cell?] at h
      split at h <;> simp at h
  · rcases Nat.lt_or_ge b w.heap.size with h' | h'
    · exact h'
    · simp [World.cell?, Array.getElem?_eq_none h'] at h
/-- Rows of equal length, opened one by one. -/
theorem rows_of {α : Type} {f : α → List Value} {k : Nat} (hk : ∀ a, (f a).length = k) (h0 : 0 < k) {Pr : α → Prop} {W : World} {a : Addr} {n : Nat} (each : ∀ i, i < n → ∃ u : α, Pr u ∧ W.cells? 0 (a.add (i * k)) k = some (f u)) :
    ∃ l : List α, l.length = n ∧ ∀ (j : Nat) (u : α), l[j]? = some u → Pr u ∧ ∃ b off, a = ⟨b, off, none⟩ ∧ b < W.heap.size ∧ W.rangeAt b (off + j * k) (f u) := by
  have mk : ∀ q, q ≤ n → ∃ l : List α, l.length = q ∧ ∀ (i : Nat) (u : α), l[i]? = some u → Pr u ∧ W.cells? 0 (a.add (i * k)) k = some (f u) := by
    intro q
    induction q with
    | zero => exact fun _ => ⟨[], rfl, fun i u hu => by simp at hu⟩
    | succ q ih =>
      intro hq
      obtain ⟨l, hl, hl2⟩ := ih (by omega)
      obtain ⟨u, hu2⟩ := each q (by omega)
      refine ⟨l ++ [u], by simp [hl], fun i u' hu' => ?_⟩
      rcases Nat.lt_or_ge i l.length with h1 | h1
      · rw [List.getElem?_append_left h1] at hu'
        exact hl2 i u' hu'
      · rw [List.getElem?_append_right h1] at hu'
        have h3 := (List.getElem?_eq_some_iff.1 hu').1
        have h4 : i = q := by simp at h3; omega
        subst h4
        rw [hl, Nat.sub_self] at hu'
        obtain rfl : u = u' := by simpa using hu'
        exact hu2
  obtain ⟨l, hll, hlc⟩ := mk n (Nat.le_refl _)
  refine ⟨l, hll, fun j u hu => ⟨(hlc j u hu).1, ?_⟩⟩
  have h1 := (World.cells?_some (hlc j u hu).2).2.2
  obtain ⟨b, off, sp⟩ := a
  have hl0 : 0 < l.length := Nat.lt_of_le_of_lt (Nat.zero_le _) (List.getElem?_eq_some_iff.1 hu).1
  have h00 := (World.cells?_some (hlc 0 l[0] (List.getElem?_eq_getElem hl0)).2).2.2 0 h0
  have e0 : (Addr.add (Addr.add ⟨b, off, sp⟩ (0 * k)) 0) = ⟨b, off, sp⟩ := by simp [Addr.add]
  have hlen : 0 < (f l[0]).length := by rw [hk]; exact h0
  rw [e0, List.getElem?_eq_getElem hlen] at h00
  obtain ⟨rfl, hb⟩ := cell_spot' h00
  refine ⟨b, off, rfl, hb, fun t v hv => ?_⟩
  have ht : t < k := by
    have := (List.getElem?_eq_some_iff.1 hv).1
    rwa [hk] at this
  have h2 := h1 t ht
  rw [add_plain, add_plain] at h2
  rw [h2]
  exact hv
theorem bytes46 : Tryz.prog.bytesOf 61 = 192 := by kernel_rfl
section
variable {H : Type} {enc : TypeId × Value → H} {W : World} {m : Nat} {x : DataW H × List MemPlace}
/-- A row of properties, opened. -/
theorem open_rowP {cs : List Value} (h : DataW.trod enc Tryz.prog W 0 (fun _ => true) true m 32 cs = some x) (hw : ∀ n ∈ x.1.weights Tryz.prog 32, n ≤ reachBytes) :
    ∃ (A : Option Addr) (cap : Nat) (l : List PR), cs = [.slice A l.length cap] ∧ ReadsP W A l ∧ (A = none → cap = 0) ∧ l.length ≤ 733007751850 := by
  rcases Go.Deep.open_slice Tryz.underlying32 h with ⟨hcs, hx⟩ | ⟨a, len, cap, mm, k, D, Pl, hcs, _, hl, hm, hme, hx, hel⟩
  · exact ⟨none, 0, [], hcs, fun j u hu => by simp at hu, fun _ => rfl, by simp⟩
  · have hme' : len ≤ mm := by
      simp at hme
      omega
    have each : ∀ i, i < len → ∃ u : PR, OkP u ∧ W.cells? 0 (a.add (i * 20)) 20 = some u.cs := by
      intro i hi
      obtain ⟨cs', h1, h2⟩ := hel i (by omega)
      obtain ⟨u, rfl, hu⟩ := cells_prop h2
      rw [cellsOf46] at h1
      exact ⟨u, hu, h1⟩
    obtain ⟨l, hll, hlr⟩ := rows_of pcs_length (by omega) each
    refine ⟨some a, cap, l, by rw [hcs, hll], fun j p hp => ?_, (fun h => by cases h), ?_⟩
    · obtain ⟨h1, b, off, rfl, h3, h4⟩ := hlr j p hp
      exact ⟨h1, b, off, rfl, h3, h4⟩
    · rw [hx] at hw
      have h1 := hw ((((List.range len).map D).length + ((List.range (mm - len)).map fun j => D (len + j)).length) * Tryz.prog.bytesOf 61) (by simp [DataW.weights, Tryz.underlying32])
      rw [bytes46] at h1
      have h2 := reachBytes_lt
      simp at h1
      omega
theorem weights_all {P : Program} {e : TypeId} : ∀ {l : List (DataW H)} {d : DataW H}, d ∈ l → ∀ n ∈ d.weights P e, n ∈ DataW.weightsAll P e l
  | y :: l, d, hd, n, hn => by
    simp only [DataW.weightsAll, List.mem_append]
    rcases List.mem_cons.1 hd with rfl | hd
    · exact .inl hn
    · exact .inr (weights_all hd n hn)
set_option maxRecDepth 100000 in
theorem cells_shape {cs : List Value} (h : DataW.trod enc Tryz.prog W 0 (fun _ => true) true m 34 cs = some x) (hw : ∀ n ∈ x.1.weights Tryz.prog 34, n ≤ reachBytes) :
    ∃ e : CE, (e.s.p.x < 2 ^ 64 ∧ e.s.ps.length ≤ 733007751850 ∧ ReadsP W e.A e.s.ps ∧ (e.A = none → e.cap = 0)) ∧ cs = e.cs := by
  obtain ⟨xs, n, _, rfl, hl, hlen, hf⟩ := DataW.trod_struct Tryz.underlying34 h
  rw [cellsOf28] at hl
  match cs, hl with
  | [c0, c1, c2, c3, c4, c5, c6, c7], _ =>
    have h0 := hf 0 _ rfl
    have h1 := hf 1 _ rfl
    have h2 := hf 2 _ rfl
    have h3 := hf 3 _ rfl
    simp [cellsOf3, cellsOf4, cellsOf24, cellsOf26] at h0 h1 h2 h3 hlen
    have g : ∀ j, j < 4 → ∃ y, xs[j]? = some y := fun j hj => ⟨_, List.getElem?_eq_getElem (by omega)⟩
    obtain ⟨y0, e0⟩ := g 0 (by omega)
    obtain ⟨y1, e1⟩ := g 1 (by omega)
    obtain ⟨y2, e2⟩ := g 2 (by omega)
    obtain ⟨y3, e3⟩ := g 3 (by omega)
    rw [e0] at h0
    rw [e1] at h1
    rw [e2] at h2
    rw [e3] at h3
    obtain ⟨kd, rfl, -, -⟩ := cell_int Tryz.underlying3 h0
    obtain ⟨v, hv, hx64, -⟩ := cells_value h1
    obtain ⟨b, rfl, -⟩ := cell_bool Tryz.underlying4 h2
    obtain ⟨A, cap, l, hcs, hR, hc0, hz⟩ := open_rowP h3 (fun q hq => hw q (by
      have hm := DataW.weights_mem_each (P := Tryz.prog) (ts := [3, 31, 4, 32]) (ds := xs.map (·.1)) (j := 3) (t := 32) (d := y3.1) rfl (by rw [List.getElem?_map, e3]; rfl) q hq
      simpa [DataW.weights, Tryz.underlying34] using hm))
    refine ⟨⟨⟨kd, v, b, l⟩, A, cap⟩, ⟨hx64, hz, hR, hc0⟩, ?_⟩
    simp only [List.cons.injEq] at hv hcs
    obtain ⟨rfl, rfl, rfl, rfl, rfl, -⟩ := hv
    obtain ⟨rfl, -⟩ := hcs
    rfl
/-- A list of shapes, opened. -/
theorem open_rowS {v : Value} {d : DataW H} {p : List MemPlace} {A : Option Addr} {n cap : Nat} (hv : v = .slice A n cap) (h : DataW.Trod enc Tryz.prog W 0 (fun _ => true) true 22 v d p) (hw : ∀ n ∈ d.weights Tryz.prog 22, n ≤ reachBytes) : ∃ l : List SH, n = l.length ∧ ReadsT W A l := by
  subst hv
  obtain ⟨fuel, hf⟩ := h
  rcases Go.Deep.open_slice Tryz.underlying22 hf with ⟨hcs, hx⟩ | ⟨a, len, cap', mm, k, D, Pl, hcs, _, hl, hm, hme, hx, hel⟩
  · simp [Value.cells] at hcs
    obtain ⟨rfl, rfl, rfl⟩ := hcs
    exact ⟨[], rfl, fun j u hu => by simp at hu⟩
  · simp [Value.cells] at hcs
    obtain ⟨rfl, rfl, rfl⟩ := hcs
    have hme' : n ≤ mm := by
      simp at hme
      omega
    have hd : d = .slice ((List.range n).map D) ((List.range (mm - n)).map fun j => D (n + j)) := congrArg Prod.fst hx
    have each : ∀ i, i < n → ∃ u : CE, (u.s.p.x < 2 ^ 64 ∧ u.s.ps.length ≤ 733007751850 ∧ ReadsP W u.A u.s.ps ∧ (u.A = none → u.cap = 0)) ∧ W.cells? 0 (a.add (i * 8)) 8 = some u.cs := by
      intro i hi
      obtain ⟨cs', h1, h2⟩ := hel i (by omega)
      obtain ⟨u, hu, rfl⟩ := cells_shape h2 (fun q hq => hw q (by
        have hm := weights_all (P := Tryz.prog) (e := 34) (l := (List.range n).map D) (d := D i) (List.mem_map.2 ⟨i, List.mem_range.2 hi, rfl⟩) q hq
        rw [hd]
        simp only [DataW.weights, Tryz.underlying22, List.mem_cons, List.mem_append]
        exact .inr (.inl hm)))
      rw [cellsOf28] at h1
      exact ⟨u, hu, h1⟩
    obtain ⟨l, hll, hlr⟩ := rows_of ce_length (by omega) each
    refine ⟨l.map CE.s, by simp [hll], fun j s hs => ?_⟩
    rw [List.getElem?_map] at hs
    obtain ⟨e, he, rfl⟩ := Option.map_eq_some_iff.1 hs
    obtain ⟨⟨h1, h2, h3, h4⟩, b, off, rfl, h6, h7⟩ := hlr j e he
    exact ⟨h1, h2, b, off, e.A, e.cap, rfl, h6, h3, h7, h4⟩
end
end Go.Proofs.YtcflglloopgieaaGreatDoor

/-! Ev -/
namespace Go.Proofs.YtcflglloopgieaaGreatDoor
open Go Go.Proofs Go.Maps Go.RowKit FM
set_option linter.unusedSimpArgs false
set_option linter.unusedVariables false
set_option linter.unusedSimpArgs false
set_option linter.unusedVariables false
theorem zero_no (n : DD) : rzeroV n = noV n := by
  unfold rzeroV noV shapeV
  have ee : (n.e == 0) = !(n.e != 0) := (Bool.not_not _).symm
  have ec : (n.c == 0) = !(n.c != 0) := (Bool.not_not _).symm
  have ew : (n.w == 0) = !(n.w != 0) := (Bool.not_not _).symm
  rw [ee, ec, ew]
  generalize thV n.v = tv
  generalize thV n.g = tg
  generalize thV n.s = ts
  generalize (n.w != 0) = qa
  generalize (n.e != 0) = qe
  generalize (n.c != 0) = qc
  cases tv <;> cases qa <;> cases tg <;> cases ts <;> cases qe <;> cases qc <;> decide
theorem none_zero {v : VV} (h : thV v = false) : v = zeroV := by
  unfold thV at h
  simp only [Bool.not_eq_false', Bool.and_eq_true, beq_iff_eq, Bool.not_eq_true'] at h
  obtain ⟨k, b, x, s, i⟩ := v
  obtain ⟨⟨⟨⟨rfl, rfl⟩, rfl⟩, hs⟩, rfl⟩ := h
  have := empty_of hs
  subst this
  rfl
theorem no_zero {n : DD} (h : noV n = true) : n = zeroD := by
  rw [← zero_no] at h
  unfold rzeroV at h
  simp only [Bool.and_eq_true, Bool.not_eq_true', beq_iff_eq] at h
  obtain ⟨v, g, s, a, e, c⟩ := n
  obtain ⟨⟨⟨⟨⟨h1, h2⟩, h3⟩, h4⟩, h5⟩, h6⟩ := h
  have e1 := none_zero h1
  have e2 := none_zero h2
  have e3 := none_zero h3
  dsimp only at e1 e2 e3 h4 h5 h6
  subst e1 e2 e3 h4 h5 h6
  rfl
theorem alike_symm (a b : VV) : alikeV sameV a b = alikeV sameV b a := by
  unfold alikeV
  by_cases hk : a.k = b.k
  · rw [hk]
    by_cases h4 : b.k = 4
    · rw [if_pos h4, if_pos h4]
      unfold sameV
      rw [Bool.and_comm (isN a.x), show decide (a.x = b.x) = decide (b.x = a.x) from decide_eq_decide.2 eq_comm]
    · rw [if_neg h4, if_neg h4, Bool.beq_comm (a := a.b), show (a.s.toList == b.s.toList) = (b.s.toList == a.s.toList) from Bool.beq_comm, show (a.i == b.i) = (b.i == a.i) from Bool.beq_comm]
  · have h1 : (a.k == b.k) = false := by simp [hk]
    have h2 : (b.k == a.k) = false := by simp [Ne.symm hk]
    rw [h1, h2]
    rfl
/-- A field that is as it must be: absent, or well formed. -/
def okF (v : VV) : Prop := (v.k != 0) = thV v ∧ (thV v = true → v.good = true)
theorem okV {d : DD} (h : soundV d = true) : okF d.v := by
  have hk := (sound_keys h).1
  unfold soundV at h
  simp only [Bool.and_eq_true, Bool.or_eq_true, Bool.not_eq_true'] at h
  refine ⟨hk, fun ht => ?_⟩
  rcases h.1.1.1.1.1 with h | h
  · rw [ht] at h
    exact absurd h (by decide)
  · exact h
theorem okC {v : VV} (h : callV v = true) : okF v := by
  refine ⟨(fieldG v).2 h, fun ht => ?_⟩
  rw [(fieldG v).1, ht] at h
  unfold slotV at h
  simp at h
  exact h.1
theorem okG {d : DD} (h : soundV d = true) : okF d.g := by
  unfold soundV at h
  simp only [Bool.and_eq_true] at h
  exact okC h.1.1.1.1.2
theorem okS {d : DD} (h : soundV d = true) : okF d.s := by
  unfold soundV at h
  simp only [Bool.and_eq_true] at h
  exact okC h.1.1.1.2
theorem sam_symm (a b : VV) : samV a b = samV b a := by
  unfold samV
  rw [alike_symm, Bool.and_comm a.good]
  cases thV a <;> cases thV b <;> rfl
theorem whole_23 {d : DD} (h : wholeV d = true) : kindV d = 2 ∨ kindV d = 3 := by
  rcases kind_cases d with hk | hk | hk | hk
  · exact absurd hk (whole_kind h)
  · unfold wholeV at h
    rw [hk] at h
    simp at h
  · exact Or.inl hk
  · exact Or.inr hk
theorem st_whole {n : DD} (hs : stV n = true) (hz : noV n = false) : wholeV n = true := by
  unfold stV at hs
  rw [hz] at hs
  simpa using hs
/-- What is said of a descriptor, in signs. -/
theorem whole_iff (a : DD) : wholeV a = true ↔ soundV a = true ∧ (a.e != 0) = true ∧ (a.c != 0) = true ∧ ((thV a.v = true ∧ (a.w != 0) = true ∧ thV a.g = false ∧ thV a.s = false) ∨ (thV a.g = true ∧ thV a.s = true ∧ thV a.v = false ∧ (a.w != 0) = false)) := by
  unfold wholeV kindV shapeV
  generalize soundV a = sd
  generalize thV a.v = tv
  generalize thV a.g = tg
  generalize thV a.s = ts
  generalize (a.w != 0) = qa
  generalize (a.e != 0) = qe
  generalize (a.c != 0) = qc
  cases sd <;> cases tv <;> cases qa <;> cases tg <;> cases ts <;> cases qe <;> cases qc <;> decide
theorem sound_parts {d : DD} (h : soundV d = true) : (!thV d.v || d.v.good) = true ∧ callV d.g = true ∧ callV d.s = true ∧ triV d.w = true ∧ triV d.e = true ∧ triV d.c = true := by
  unfold soundV at h
  simp only [Bool.and_eq_true] at h
  exact ⟨h.1.1.1.1.1, h.1.1.1.1.2, h.1.1.1.2, h.1.1.2, h.1.2, h.2⟩
theorem same_refl (x : Nat) : sameV x x = true := by unfold sameV; simp
theorem alike_refl (v : VV) : alikeV sameV v v = true := by
  unfold alikeV
  rw [same_refl]
  simp
theorem sam_refl {v : VV} (h : okF v) : samV v v = true := by
  unfold samV
  cases ht : thV v
  · rfl
  · rw [h.2 ht, alike_refl]
    rfl
theorem same_trans {x y z : Nat} (h1 : sameV x y = true) (h2 : sameV y z = true) : sameV x z = true := by
  unfold sameV at *
  simp only [Bool.or_eq_true, Bool.and_eq_true, decide_eq_true_eq] at *
  rcases h1 with ⟨a, b⟩ | rfl
  · rcases h2 with ⟨c, d⟩ | rfl
    · exact Or.inl ⟨a, d⟩
    · exact Or.inl ⟨a, b⟩
  · exact h2
theorem alike_trans {a b c : VV} (h1 : alikeV sameV a b = true) (h2 : alikeV sameV b c = true) : alikeV sameV a c = true := by
  unfold alikeV at *
  simp only [Bool.and_eq_true, beq_iff_eq] at h1 h2 ⊢
  obtain ⟨k1, r1⟩ := h1
  obtain ⟨k2, r2⟩ := h2
  refine ⟨k1.trans k2, ?_⟩
  by_cases h4 : a.k = 4
  · rw [if_pos h4] at r1 ⊢
    rw [if_pos (k1 ▸ h4)] at r2
    exact same_trans r1 r2
  · rw [if_neg h4] at r1 ⊢
    rw [if_neg (k1 ▸ h4)] at r2
    simp only [Bool.and_eq_true, beq_iff_eq] at r1 r2 ⊢
    exact ⟨⟨r1.1.1.trans r2.1.1, r1.1.2.trans r2.1.2⟩, r1.2.trans r2.2⟩
theorem sam_trans {a b c : VV} (h1 : samV a b = true) (h2 : samV b c = true) : samV a c = true := by
  unfold samV at *
  cases ha : thV a <;> cases hb : thV b <;> cases hc : thV c <;> rw [ha, hb] at h1 <;> rw [hb, hc] at h2 <;> simp at h1 h2 ⊢
  exact ⟨⟨h1.1.1, h2.1.2⟩, alike_trans h1.2 h2.2⟩
set_option linter.unusedSimpArgs false
set_option linter.unusedVariables false
theorem tri_12 {t : Int} (h : triV t = true) (h0 : (t != 0) = true) : t = 1 ∨ t = 2 := by
  unfold triV at h
  simp at h h0
  omega
theorem kept_self {a : DD} (ha : wholeV a = true) (hc : a.c = 1) : keptV a a = true := by
  obtain ⟨ns, ne, nc, nn⟩ := (whole_iff a).1 ha
  obtain ⟨q1, q2, q3, q4, q5, q6⟩ := sound_parts ns
  unfold keptV
  rw [hc, sam_refl (okG ns), sam_refl (okS ns), sam_refl (okV ns)]
  by_cases h3 : shapeV a = 3
  · simp [h3]
  · rcases nn with ⟨n1, n2, n3, n4⟩ | ⟨n1, n2, n3, n4⟩
    · rcases tri_12 q4 n2 with h | h <;> simp [h, h3]
    · refine absurd ?_ h3
      unfold shapeV
      rw [n1, n2, n3, n4]
      rfl
theorem keep_self {a : DD} (h : stV a = true) : keepB a a = true := by
  unfold keepB
  rw [h]
  cases hno : noV a
  · have ha := st_whole h hno
    obtain ⟨ns, ne, nc, nn⟩ := (whole_iff a).1 ha
    rcases tri_12 (sound_parts ns).2.2.2.2.2 nc with hc | hc
    · rw [kept_self ha hc]
      simp
    · rw [hc]
      rfl
  · rfl
theorem kept_trans {a b c : DD} (h1 : keptV a b = true) (h2 : keptV b c = true) : keptV a c = true := by
  have un : ∀ a b : DD, keptV a b = true → b.c = 1 ∧ b.e = a.e ∧ shapeV b = shapeV a ∧ (shapeV a = 3 → samV a.g b.g = true ∧ samV a.s b.s = true) ∧ (¬ shapeV a = 3 → a.w = 2 ∨ b.w = 1 ∧ samV a.v b.v = true) := fun a b h => by
    unfold keptV at h
    cases hq : (b.c != 1 || b.e != a.e || shapeV b != shapeV a)
    · rw [hq] at h
      simp only [Bool.or_eq_false_iff, bne_eq_false_iff_eq] at hq
      refine ⟨hq.1.1, hq.1.2, hq.2, fun h3 => ?_, fun h3 => ?_⟩
      · simpa [h3] using h
      · simpa [h3] using h
    · rw [hq] at h
      simp at h
  obtain ⟨a1, a2, a3, a4, a5⟩ := un a b h1
  obtain ⟨b1, b2, b3, b4, b5⟩ := un b c h2
  unfold keptV
  rw [b1, b2, b3, a2, a3]
  by_cases h3 : shapeV a = 3
  · obtain ⟨j1, j2⟩ := a4 h3
    obtain ⟨i1, i2⟩ := b4 (a3.trans h3)
    simp [h3, sam_trans j1 i1, sam_trans j2 i2]
  · have h3b : ¬ shapeV b = 3 := fun k => h3 (a3 ▸ k)
    rcases a5 h3 with hw | ⟨hw, hs⟩
    · simp [h3, hw]
    · rcases b5 h3b with hw2 | ⟨hw2, hs2⟩
      · omega
      · simp [h3, hw2, sam_trans hs hs2]
theorem keep_trans {a b c : DD} (hc : stV c = true) (h1 : keepB a b = true) (h2 : keepB b c = true) : keepB a c = true := by
  unfold keepB at *
  cases ha : stV a
  · rw [ha] at h1
    simp at h1
  · cases hb : stV b
    · rw [ha, hb] at h1
      simp at h1
    · rw [ha, hb] at h1
      rw [hb, hc] at h2
      rw [hc]
      simp only [Bool.not_true, Bool.or_self, Bool.false_eq_true, if_false] at h1 h2 ⊢
      cases hq : (noV a || a.c == 2)
      · rw [hq] at h1
        simp only [Bool.false_eq_true, if_false] at h1 ⊢
        have hbc : b.c = 1 := by
          unfold keptV at h1
          cases hq : (b.c != 1 || b.e != a.e || shapeV b != shapeV a)
          · simp only [Bool.or_eq_false_iff, bne_eq_false_iff_eq] at hq
            exact hq.1.1
          · rw [hq] at h1
            simp at h1
        have hn : (noV b || b.c == 2) = false := by
          unfold noV
          rw [hbc]
          simp
        rw [hn] at h2
        exact kept_trans h1 h2
      · rfl
theorem st_same (n : DD) : rstV n = stV n := by
  unfold rstV stV
  rw [zero_no, (four n).2]
theorem sam_same {a b : VV} (ha : okF a) (hb : okF b) : rsamV a b = samV a b := by
  unfold rsamV samV
  have ea : (a.k == 0) = !thV a := by rw [← ha.1]; exact (Bool.not_not _).symm
  have eb : (b.k == 0) = !thV b := by rw [← hb.1]; exact (Bool.not_not _).symm
  rw [ea, eb, ha.1, hb.1]
  cases hta : thV a
  · rfl
  · cases htb : thV b
    · rfl
    · rw [ha.2 hta, hb.2 htb]
      rfl
theorem keep_same (a b : DD) : rkeepB a b = keepB a b ∧ rkeepE a b = keepE a b := by
  unfold rkeepB keepB rkeepE keepE
  rw [st_same, st_same, zero_no]
  refine ⟨?_, rfl⟩
  cases hsa : stV a
  · rfl
  · cases hsb : stV b
    · rfl
    · cases hna : noV a
      · have wa := st_whole hsa hna
        have hkk : rkeptV a b = keptV a b := by
          unfold rkeptV keptV
          rw [zero_no]
          cases hnb : noV b
          · have wb := st_whole hsb hnb
            have sa := kind_sound (whole_kind wa)
            have sb := kind_sound (whole_kind wb)
            rw [sam_same (okG sa) (okG sb), sam_same (okS sa) (okS sb), sam_same (okV sa) (okV sb), (four a).1.2.1, (four b).1.2.1, kind_shape (whole_kind wa), kind_shape (whole_kind wb), Bool.and_comm (samV a.v b.v)]
            have hx : ((kindV a == 3) != (kindV b == 3)) = (kindV b != kindV a) := by
              rcases whole_23 wa with h | h <;> rw [h] <;> rcases whole_23 wb with e | e <;> rw [e] <;> rfl
            rw [hx]
            rfl
          · have hb := no_zero hnb
            subst hb
            rfl
        rw [hkk]
      · rfl
end Go.Proofs.YtcflglloopgieaaGreatDoor
