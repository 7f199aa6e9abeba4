import Derived.Test.YtpbdidnphkkenaaGreatDoorQg
set_option linter.all false
namespace Go.Proofs.YtpbdidnphkkenaaGreatDoor
section
open Go Go.Proofs Go.Maps Go.RowKit
/-! Blocks of cells. -/
/-- Block B holds these cells, and may be written. -/
def Holds (W : World) (B : Nat) (cs : List Value) : Prop := (∀ j, W.frozen? ⟨B, j, none⟩ = false) ∧ W.rangeAt B 0 cs
theorem Holds.block {W W1 : World} {B : Nat} {cs : List Value} (h : Holds W B cs) (he : W1.heap[B]? = W.heap[B]?) : Holds W1 B cs := by
  have hc : ∀ j, W1.cell? ⟨B, j, none⟩ = W.cell? ⟨B, j, none⟩ := fun j => World.cell?_of_block he
  have hf : ∀ j, W1.frozen? ⟨B, j, none⟩ = W.frozen? ⟨B, j, none⟩ := fun j => World.frozen?_of_block he
  unfold Holds World.rangeAt at *
  simp only [hc, hf]
  exact h
theorem Holds.new (w : World) (cs : List Value) (t : TypeId) : Holds (w.alloc (Obj.cells cs.toArray t)) w.heap.size cs := by
  refine ⟨fun j => ?_, fun j v hv => ?_⟩
  · simp [go_sem]
  · simp [go_sem]
    exact hv
theorem Holds.cell {W : World} {B : Nat} {cs : List Value} (h : Holds W B cs) (p : Nat) {v : Value} (hp : cs[p]? = some v) : W.cell? ⟨B, p, none⟩ = some v := by
  have := h.2 p v hp
  simpa using this
theorem Holds.mid {W : World} {B : Nat} {cs : List Value} (h : Holds W B cs) (p n : Nat) : W.rangeAt B p ((cs.drop p).take n) := by
  intro j v hv
  rw [List.getElem?_take] at hv
  split at hv
  · rw [List.getElem?_drop] at hv
    exact h.cell (p + j) hv
  · cases hv
theorem Holds.there {W : World} {B : Nat} {cs : List Value} (h : Holds W B cs) (p n : Nat) (hp : p + n ≤ cs.length) : W.there B p n := by
  intro j hj
  refine ⟨?_, h.1 _⟩
  rw [h.cell (p + j) (List.getElem?_eq_getElem (by omega))]
  rfl
theorem Holds.lt {W : World} {B : Nat} {cs : List Value} (h : Holds W B cs) (hc : 0 < cs.length) : B < W.heap.size := by
  have h0 := h.cell 0 (List.getElem?_eq_getElem hc)
  rcases Nat.lt_or_ge B W.heap.size with h1 | h1
  · exact h1
  · exfalso
    have e : W.heap[B]? = none := Array.getElem?_eq_none h1
    simp [World.cell?, e] at h0
/-- Cells from p on are others. -/
def cput (cs : List Value) (p : Nat) (vs : List Value) : List Value := cs.take p ++ vs ++ cs.drop (p + vs.length)
theorem Holds.put {W : World} {B : Nat} {cs : List Value} (h : Holds W B cs) (p : Nat) (vs : List Value) (hp : p + vs.length ≤ cs.length) : Holds (W.setCells B p vs) B (cput cs p vs) := by
  refine ⟨fun j => by rw [World.frozen?_setCells]; exact h.1 j, fun j v hv => ?_⟩
  unfold cput at hv
  have hth := h.there p vs.length hp
  have e0 : (⟨B, 0 + j, none⟩ : Addr) = ⟨B, j, none⟩ := by simp
  rw [e0]
  by_cases h1 : j < p
  · rw [List.getElem?_append_left (by simp; omega), List.getElem?_append_left (by simp; omega), List.getElem?_take, if_pos h1] at hv
    rw [World.cell?_setCells_out B vs p W ⟨B, j, none⟩ (fun _ _ => Or.inl h1)]
    exact h.cell j hv
  · by_cases h2 : j < p + vs.length
    · rw [List.getElem?_append_left (by simp; omega), List.getElem?_append_right (by simp; omega)] at hv
      have h3 := World.rangeAt_setCells_same W B p vs hth (j - p) v (by simpa [Nat.min_eq_left (by omega : p ≤ cs.length)] using hv)
      rwa [show p + (j - p) = j by omega] at h3
    · rw [List.getElem?_append_right (by simp; omega), List.getElem?_drop] at hv
      rw [World.cell?_setCells_out B vs p W ⟨B, j, none⟩ (fun _ _ => Or.inr (by show p + vs.length ≤ j; omega))]
      refine h.cell j ?_
      rw [← hv]
      congr 1
      simp
      omega
/-! What an operation reads. -/
section
variable {o : Oper} {a : Act} {W : World} {x : Operand} {B p : Nat} {cs : List Value}
theorem ex_load1 {v : Value} (t : TypeId) (hna : ∀ w, (isAgg t).run Tryz.prog w = .ok false w) (ho : o.op = .load t x) (hx : a.eval x = .pointer (some ⟨B, p, none⟩)) (hc : Holds W B cs) (hv : cs[p]? = some v) : (execOp a.eval o).run Tryz.prog W = .ok (.value v) W := by
  have h0 := hc.cell p hv
  unfold execOp
  simp only [ho, hx]
  simp [go_sem, h0, hna]
theorem ex_loadN {vs : List Value} (t : TypeId) (n : Nat) (hu : ∃ d, Tryz.prog.underlying t = some d ∧ d.isRow = true) (hi : (Tryz.prog.info? t).map (·.size) = some n) (ho : o.op = .load t x) (hx : a.eval x = .pointer (some ⟨B, p, none⟩)) (hc : Holds W B cs) (hv : (cs.drop p).take n = vs) (hn : vs.length = n) : (execOp a.eval o).run Tryz.prog W = .ok (.value (.agg vs.toArray)) W := by
  obtain ⟨d, hu, hd⟩ := hu
  have h0 := hc.mid p n
  rw [hv] at h0
  unfold execOp
  simp only [ho, hx, Instr.loadAt, Instr.sureAddr, Sem.run_bind, Sem.run_pure, Result.andThen_ok, run_loadVar_mid W B p t vs d h0 hu hd (by rw [hi, hn])]
end
/-! Descriptors. -/
structure DD where
  v : VV
  g : VV
  s : VV
  w : Int
  e : Int
  c : Int
def VV.cs (d : VV) : List Value := [.int .i64 d.k, .bool d.b, .float .f64 d.x, .string d.s, .int .i64 d.i]
def DD.cs (d : DD) : List Value := d.v.cs ++ d.g.cs ++ d.s.cs ++ [.int .i64 d.w, .int .i64 d.e, .int .i64 d.c]
def DD.agg (d : DD) : Value := .agg d.cs.toArray
def zeroV : VV := ⟨0, false, 0, ⟨#[]⟩, 0⟩
def zeroD : DD := ⟨zeroV, zeroV, zeroV, 0, 0, 0⟩
/-! What may have changed. -/
/-- Of what was there in w, X has other blocks at most at E. -/
structure Fr (w X : World) (E : List Nat) : Prop where
  os : X.os = w.os
  tape : X.tape = w.tape
  output : X.output = w.output
  size : w.heap.size ≤ X.heap.size
  block : ∀ b, b < w.heap.size → b ∉ E → X.heap[b]? = w.heap[b]?
theorem Fr.refl (w : World) (E : List Nat) : Fr w w E := ⟨rfl, rfl, rfl, Nat.le_refl _, fun _ _ _ => rfl⟩
theorem Fr.trans {w X Y : World} {E E' : List Nat} (h : Fr w X E) (k : Fr X Y E') (hE : ∀ b ∈ E', b ∈ E ∨ w.heap.size ≤ b) : Fr w Y E :=
  ⟨k.os.trans h.os, k.tape.trans h.tape, k.output.trans h.output, Nat.le_trans h.size k.size, fun b hb he =>
    (k.block b (Nat.lt_of_lt_of_le hb h.size) (fun he' => (hE b he').elim he (fun h2 => by omega))).trans (h.block b hb he)⟩
theorem Fr.of_below {w X : World} (h : Below w.heap.size w X) (E : List Nat) : Fr w X E := ⟨h.os, h.tape, h.output, h.size, fun b hb _ => h.block b hb⟩
theorem Fr.below {w X : World} (h : Fr w X []) : Below w.heap.size w X := ⟨h.os, h.tape, h.output, h.size, fun b hb => h.block b hb (by simp)⟩
theorem Fr.on {w X Y : World} {E : List Nat} (h : Fr w X E) (k : Below X.heap.size X Y) : Fr w Y E := h.trans (Fr.of_below k []) (by simp)
theorem Fr.mono {w X : World} {E E' : List Nat} (h : Fr w X E) (hE : ∀ b ∈ E, b ∈ E' ∨ w.heap.size ≤ b) : Fr w X E' := (Fr.refl w E').trans h hE
theorem Fr.drew {w X : World} {E : List Nat} (h : Fr w X E) : Fr w X.drew E := ⟨h.os, h.tape, h.output, h.size, h.block⟩
theorem os_setCells (b : Nat) : ∀ (vs : List Value) (o : Nat) (X : World), (X.setCells b o vs).os = X.os ∧ (X.setCells b o vs).tape = X.tape ∧ (X.setCells b o vs).output = X.output
  | [], _, _ => ⟨rfl, rfl, rfl⟩
  | v :: vs, o, X => by
    obtain ⟨h1, h2, h3⟩ := os_setCells b vs (o + 1) (X.setCell ⟨b, o, none⟩ v)
    rw [World.setCells]
    exact ⟨h1, h2, h3⟩
theorem Fr.setCells (X : World) (b p : Nat) (vs : List Value) : Fr X (X.setCells b p vs) [b] :=
  ⟨(os_setCells b vs p X).1, (os_setCells b vs p X).2.1, (os_setCells b vs p X).2.2, by rw [size_setCells]; exact Nat.le_refl _, fun g _ hg => heap_setCells b vs p X g (by simpa using hg)⟩
theorem Fr.grown {X Y : World} {row : Option Nat} (h : X.grownBy Y row) : Fr X Y row.toList :=
  ⟨h.os, h.tape, h.output, h.size, fun b hb hE => h.block b hb (fun e => hE (by rw [← e]; simp))⟩
/-- Our blocks hold what they held; of what was there ahead only blocks of E may have changed. -/
structure Hq (w X : World) (E : List Nat) (L : List (Nat × List Value)) : Prop where
  fr : Fr w X E
  all : ∀ q ∈ L, Holds X q.1 q.2 ∧ 0 < q.2.length
  nd : (L.map (·.1)).Nodup
theorem Hq.nil (w : World) (E : List Nat) : Hq w w E [] := ⟨Fr.refl _ _, (fun q hq => by cases hq), by simp⟩
theorem Hq.lt {w X : World} {E : List Nat} {L : List (Nat × List Value)} (h : Hq w X E L) : ∀ q ∈ L, q.1 < X.heap.size := fun q hq => (h.all q hq).1.lt (h.all q hq).2
theorem Hq.get {w X : World} {E : List Nat} {L : List (Nat × List Value)} (h : Hq w X E L) (i : Nat) {b : Nat} {cs : List Value} (hi : L[i]? = some (b, cs)) : Holds X b cs := (h.all _ (List.mem_of_getElem? hi)).1
theorem Hq.drew {w X : World} {E : List Nat} {L : List (Nat × List Value)} (h : Hq w X E L) : Hq w X.drew E L := ⟨h.fr.drew, fun q hq => ⟨(h.all q hq).1.block rfl, (h.all q hq).2⟩, h.nd⟩
theorem Hq.on {w X Y : World} {E : List Nat} {L : List (Nat × List Value)} (h : Hq w X E L) (k : Below X.heap.size X Y) : Hq w Y E L :=
  ⟨h.fr.on k, fun q hq => ⟨(h.all q hq).1.block (k.block _ (h.lt q hq)), (h.all q hq).2⟩, h.nd⟩
theorem Hq.step {w X Y : World} {E E' : List Nat} {L : List (Nat × List Value)} (h : Hq w X E L) (k : Fr X Y E') (hE : ∀ b ∈ E', b ∈ E ∨ w.heap.size ≤ b) (hL : ∀ q ∈ L, q.1 ∉ E') : Hq w Y E L :=
  ⟨h.fr.trans k hE, fun q hq => ⟨(h.all q hq).1.block (k.block _ (h.lt q hq) (hL q hq)), (h.all q hq).2⟩, h.nd⟩
theorem Hq.add {w X : World} {E : List Nat} {L : List (Nat × List Value)} (h : Hq w X E L) {b : Nat} {cs : List Value} (hb : Holds X b cs) (hc : 0 < cs.length) (hn : ∀ q ∈ L, q.1 ≠ b) : Hq w X E (L ++ [(b, cs)]) := by
  refine ⟨h.fr, fun q hq => ?_, ?_⟩
  · rcases List.mem_append.1 hq with hq | hq
    · exact h.all q hq
    · obtain rfl : q = (b, cs) := by simpa using hq
      exact ⟨hb, hc⟩
  · rw [List.map_append, List.nodup_append]
    refine ⟨h.nd, by simp, fun x hx y hy => ?_⟩
    obtain ⟨q, hq, rfl⟩ := List.mem_map.1 hx
    obtain rfl : y = b := by simpa using hy
    exact hn q hq
theorem Hq.new {w X : World} {E : List Nat} {L : List (Nat × List Value)} (h : Hq w X E L) (cs : List Value) (t : TypeId) (hc : 0 < cs.length) : Hq w (X.alloc (Obj.cells cs.toArray t)) E (L ++ [(X.heap.size, cs)]) :=
  (h.on ((Below.refl _ _).alloc (Nat.le_refl _) _)).add (Holds.new X cs t) hc (fun q hq => Nat.ne_of_lt (h.lt q hq))
theorem Hq.put {w X : World} {E : List Nat} {L : List (Nat × List Value)} (h : Hq w X E L) (i : Nat) {b : Nat} {cs : List Value} (hi : L[i]? = some (b, cs)) (p : Nat) (vs : List Value) (hp : p + vs.length ≤ cs.length) (hE : b ∈ E ∨ w.heap.size ≤ b) : Hq w (X.setCells b p vs) E (L.set i (b, cput cs p vs)) := by
  have hil := (List.getElem?_eq_some_iff.1 hi).1
  have hie := (List.getElem?_eq_some_iff.1 hi).2
  have hH := h.get i hi
  have hlen : (cput cs p vs).length = cs.length := by simp [cput]; omega
  refine ⟨h.fr.trans (Fr.setCells X b p vs) (by simpa using hE), fun q hq => ?_, ?_⟩
  · rcases List.getElem?_of_mem hq with ⟨j, hj⟩
    rw [List.getElem?_set] at hj
    split at hj
    · rename_i e
      subst e
      obtain rfl := Option.some.inj hj
      have h1 := (h.all _ (List.mem_of_getElem? hi)).2
      exact ⟨hH.put p vs hp, by simpa [hlen] using h1⟩
    · rename_i e
      have hm := List.mem_of_getElem? hj
      refine ⟨(h.all q hm).1.block (heap_setCells b vs p X q.1 ?_), (h.all q hm).2⟩
      intro eb
      have hjl := (List.getElem?_eq_some_iff.1 hj).1
      have h1 : (L.map (·.1))[i]? = some b := by simp [hi]
      have h2 : (L.map (·.1))[j]? = some b := by simp [hj, eb]
      have := (List.getElem?_inj (by simpa using hil) h.nd).1 (h1.trans h2.symm)
      exact e this
  · have e : (L.set i (b, cput cs p vs)).map (·.1) = L.map (·.1) := by
      rw [List.map_set]
      apply List.ext_getElem?
      intro j
      rw [List.getElem?_set]
      split
      · rename_i e
        subst e
        simp [hil, hie]
      · rfl
    rw [e]
    exact h.nd
