import Derived.Test.YthilnaeomkppaaaGreatFmtQs
import Derived.Test.YthilnaeomkppaaaGreatFmtQv
set_option linter.all false
namespace Go.Proofs.YthilnaeomkppaaaGreatFmt
section
open Go Go.Proofs Go.Maps Go.RowKit
/-! A map from keys to rows. -/
/-- How a pointer to a row reads: by its block. -/
def ptrR : Value → Option (DataW Unit × List MemPlace)
  | .pointer none => some (.nil, [])
  | .pointer (some ⟨b, 0, none⟩) => some (.lit (.int .i64 (b : Nat)), [])
  | _ => none
/-- The pointer to a row's block. -/
def pv : Option Nat → Value
  | none => .pointer none
  | some b => .pointer (some ⟨b, 0, none⟩)
def pd : Option Nat → DataW Unit
  | none => .nil
  | some b => .lit (.int .i64 (b : Nat))
theorem ptrR_pv (o : Option Nat) : ptrR (pv o) = some (pd o, []) := by cases o <;> rfl
theorem pd_inj {o o' : Option Nat} (h : pd o = pd o') : o = o' := by
  cases o <;> cases o' <;> simp [pd] at h ⊢
  omega
theorem ptrR_inv {v : Value} {o : Option Nat} {ps : List MemPlace} (h : ptrR v = some (pd o, ps)) : v = pv o := by
  unfold ptrR at h
  split at h
  · have e := congrArg Prod.fst (Option.some.inj h)
    rw [← pd_inj (o := none) (o' := o) e]; rfl
  · rename_i b
    have e := congrArg Prod.fst (Option.some.inj h)
    rw [← pd_inj (o := some b) (o' := o) e]; rfl
  · cases h
def OkK (k : KK) : Prop := k.s.size ≤ maxLen ∧ (Lit.int .i64 k.n).wf = true
def kl (k : KK) : Lit := klit k.s k.n
theorem keyOfK {k : KK} (h : OkK k) : keyOf Tryz.prog 42 k.agg = some (kl k) := keyOf33 k.s k.n h.1 h.2
theorem kl_inj {k k' : KK} (h : OkK k) (h' : OkK k') (e : kl k = kl k') : k = k' := by
  obtain ⟨h1, h2⟩ := klit_inj h.1 h.2 h'.1 h'.2 e
  exact KK.ext' h1 h2
theorem kl_key {k : KK} (h : OkK k) : WideAt.IsKeyLit (kl k) := klit_key h.1 h.2
/-- Block b is a map of sz keys: key k leads to the row in block F k. -/
def MapIs (w : World) (b n sz : Nat) (F : KK → Option Nat) : Prop :=
  ∃ D : DataW Unit, w.ownsMap Tryz.prog 42 ptrR b n D ∧ Maps.size D = sz ∧ ∀ k, OkK k → D.atKey (kl k) .nil = pd (F k) ∧ Maps.has D (kl k) = (F k).isSome
theorem MapIs.made (w : World) : MapIs (w.alloc (.map #[] 0)) w.heap.size 0 0 (fun _ => none) :=
  ⟨_, World.ownsMap_made w _ _ _, rfl, fun k _ => ⟨rfl, rfl⟩⟩
theorem MapIs.lt {w : World} {b n sz : Nat} {F : KK → Option Nat} (h : MapIs w b n sz F) : b < w.heap.size := by
  obtain ⟨D, h, -⟩ := h
  exact h.lt
theorem MapIs.block {w w' : World} {b n sz : Nat} {F : KK → Option Nat} (h : MapIs w b n sz F) (he : w'.heap[b]? = w.heap[b]?) : MapIs w' b n sz F := by
  obtain ⟨D, ⟨es, clock, hb, Ft, hs, hD⟩, h2, h3⟩ := h
  exact ⟨D, ⟨es, clock, he.trans hb, Ft, hs, hD⟩, h2, h3⟩
theorem MapIs.size {w : World} {b n sz : Nat} {F : KK → Option Nat} (h : MapIs w b n sz F) : sz ≤ n := by
  obtain ⟨D, h, h2, -⟩ := h
  exact h2 ▸ h.size_le
theorem MapIs.mono {w : World} {b n n' sz : Nat} {F : KK → Option Nat} (h : MapIs w b n sz F) (hn : n ≤ n') : MapIs w b n' sz F := by
  obtain ⟨D, h, h2⟩ := h
  exact ⟨D, h.mono hn, h2⟩
theorem zero74 (w : World) : (zeroValue 110).run Tryz.prog w = .ok (.pointer none) w := by kernel_rfl
theorem MapIs.look {w : World} {b n sz : Nat} {F : KK → Option Nat} (h : MapIs w b n sz F) {k : KK} (hk : OkK k) :
    (Instr.lookup 112 (.map (some b)) k.agg true).run Tryz.prog w = .ok (.tuple #[pv (F k), .bool (F k).isSome]) w := by
  obtain ⟨D, h, h2, h3⟩ := h
  obtain ⟨v, ps, hrun, hv⟩ := h.look_ok law33 Tryz.underlying112 (zero74 w) (ptrR_pv none) (keyOfK hk)
  obtain ⟨h4, h5⟩ := h3 k hk
  have hv' : ptrR v = some (pd (F k), ps) := by rw [← h4]; exact hv
  rw [hrun, h5, ptrR_inv hv']
theorem MapIs.len {w : World} {b n sz : Nat} {F : KK → Option Nat} (h : MapIs w b n sz F) (ty : TypeId) : (Builtin.len_ #[112] ty #[.map (some b)]).run Tryz.prog w = .ok (.int .i64 sz) w := by
  obtain ⟨D, h, h2, h3⟩ := h
  rw [h.len Tryz.underlying112 ty, h2]
/-- One key is given a row. -/
def putF (F : KK → Option Nat) (k : KK) (r : Option Nat) : KK → Option Nat := fun q => if q.s = k.s ∧ q.n = k.n then r else F q
theorem putF_same (F : KK → Option Nat) (k : KK) (r : Option Nat) : putF F k r k = r := by simp [putF]
theorem putF_other {F : KK → Option Nat} {k q : KK} (h : q ≠ k) (r : Option Nat) : putF F k r q = F q := by
  unfold putF
  rw [if_neg (fun e => h (KK.ext' e.1 e.2))]
theorem MapIs.store {w : World} {b n sz : Nat} {F : KK → Option Nat} (h : MapIs w b n sz F) {k : KK} (hk : OkK k) (hn : n < maxLen) (r : Nat) :
    ∃ w', (Instr.mapUpdate 112 (.map (some b)) k.agg (pv (some r))).run Tryz.prog w = .ok () w' ∧ MapIs w' b (n + 1) (if (F k).isSome then sz else sz + 1) (putF F k (some r)) ∧ w.mapTurned w' b := by
  obtain ⟨D, h, h2, h3⟩ := h
  obtain ⟨w', hrun, ho, ht⟩ := h.store law33 Tryz.underlying112 hn (keyOfK hk) (ptrR_pv (some r))
  have ti := h.tidy law33
  refine ⟨w', hrun, ⟨_, ho, ?_, fun q hq => ?_⟩, ht⟩
  · rw [size_put ti, (h3 k hk).2, h2]
  · by_cases e : q = k
    · subst e
      rw [atKey_put_same ti.isMap (kl_key hk), has_put_same ti.isMap (kl_key hk), putF_same]
      exact ⟨rfl, rfl⟩
    · have ne : kl q ≠ kl k := fun e' => e (kl_inj hq hk e')
      rw [atKey_put_other ne, has_put_other ne, putF_other e]
      exact h3 q hq
theorem MapIs.drop {w : World} {b n sz : Nat} {F : KK → Option Nat} (h : MapIs w b n sz F) {k : KK} (hk : OkK k) (ty : TypeId) :
    ∃ w', (Builtin.delete_ #[112, 42] ty #[.map (some b), k.agg]).run Tryz.prog w = .ok (.tuple #[]) w' ∧ MapIs w' b n (if (F k).isSome then sz - 1 else sz) (putF F k none) ∧ w.mapTurned w' b := by
  obtain ⟨D, h, h2, h3⟩ := h
  obtain ⟨w', hrun, ho, ht⟩ := h.drop law33 Tryz.underlying112 (keyOfK hk) ty
  have ti := h.tidy law33
  have hs := size_del (k := kl k) ti
  refine ⟨w', hrun, ⟨_, ho, ?_, fun q hq => ?_⟩, ht⟩
  · rw [(h3 k hk).2] at hs
    split at hs <;> rename_i hc <;> simp [hc] <;> omega
  · by_cases e : q = k
    · subst e
      rw [atKey_del_same, has_del_same, putF_same]
      exact ⟨rfl, rfl⟩
    · have ne : kl q ≠ kl k := fun e' => e (kl_inj hq hk e')
      rw [atKey_del_other ne, has_del_other ne, putF_other e]
      exact h3 q hq
/-! Blocks of cells. -/
/-- Block B holds these cells, and may be written. -/
def Holds (W : World) (B : Nat) (cs : List Value) : Prop := (∀ j, W.frozen? ⟨B, j, none⟩ = false) ∧ W.rangeAt B 0 cs
theorem Holds.block {W W1 : World} {B : Nat} {cs : List Value} (h : Holds W B cs) (he : W1.heap[B]? = W.heap[B]?) : Holds W1 B cs := by
  have hc : ∀ j, W1.cell? ⟨B, j, none⟩ = W.cell? ⟨B, j, none⟩ := fun j => World.cell?_of_block he
  have hf : ∀ j, W1.frozen? ⟨B, j, none⟩ = W.frozen? ⟨B, j, none⟩ := fun j => World.frozen?_of_block he
  unfold Holds World.rangeAt at *
  simp only [hc, hf]
  exact h
theorem Holds.new (w : World) (cs : List Value) (t : TypeId) : Holds (w.alloc (Obj.cells cs.toArray t)) w.heap.size cs := by
  refine ⟨fun j => ?_, fun j v hv => ?_⟩
  · simp [go_sem]
  · simp [go_sem]
    exact hv
theorem Holds.cell {W : World} {B : Nat} {cs : List Value} (h : Holds W B cs) (p : Nat) {v : Value} (hp : cs[p]? = some v) : W.cell? ⟨B, p, none⟩ = some v := by
  have := h.2 p v hp
  simpa using this
theorem Holds.mid {W : World} {B : Nat} {cs : List Value} (h : Holds W B cs) (p n : Nat) : W.rangeAt B p ((cs.drop p).take n) := by
  intro j v hv
  rw [List.getElem?_take] at hv
  split at hv
  · rw [List.getElem?_drop] at hv
    exact h.cell (p + j) hv
  · cases hv
theorem Holds.there {W : World} {B : Nat} {cs : List Value} (h : Holds W B cs) (p n : Nat) (hp : p + n ≤ cs.length) : W.there B p n := by
  intro j hj
  refine ⟨?_, h.1 _⟩
  rw [h.cell (p + j) (List.getElem?_eq_getElem (by omega))]
  rfl
theorem Holds.lt {W : World} {B : Nat} {cs : List Value} (h : Holds W B cs) (hc : 0 < cs.length) : B < W.heap.size := by
  have h0 := h.cell 0 (List.getElem?_eq_getElem hc)
  rcases Nat.lt_or_ge B W.heap.size with h1 | h1
  · exact h1
  · exfalso
    have e : W.heap[B]? = none := Array.getElem?_eq_none h1
    simp [World.cell?, e] at h0
/-- Cells from p on are others. -/
def cput (cs : List Value) (p : Nat) (vs : List Value) : List Value := cs.take p ++ vs ++ cs.drop (p + vs.length)
theorem Holds.put {W : World} {B : Nat} {cs : List Value} (h : Holds W B cs) (p : Nat) (vs : List Value) (hp : p + vs.length ≤ cs.length) : Holds (W.setCells B p vs) B (cput cs p vs) := by
  refine ⟨fun j => by rw [World.frozen?_setCells]; exact h.1 j, fun j v hv => ?_⟩
  unfold cput at hv
  have hth := h.there p vs.length hp
  have e0 : (⟨B, 0 + j, none⟩ : Addr) = ⟨B, j, none⟩ := by simp
  rw [e0]
  by_cases h1 : j < p
  · rw [List.getElem?_append_left (by simp; omega), List.getElem?_append_left (by simp; omega), List.getElem?_take, if_pos h1] at hv
    rw [World.cell?_setCells_out B vs p W ⟨B, j, none⟩ (fun _ _ => Or.inl h1)]
    exact h.cell j hv
  · by_cases h2 : j < p + vs.length
    · rw [List.getElem?_append_left (by simp; omega), List.getElem?_append_right (by simp; omega)] at hv
      have h3 := World.rangeAt_setCells_same W B p vs hth (j - p) v (by simpa [Nat.min_eq_left (by omega : p ≤ cs.length)] using hv)
      rwa [show p + (j - p) = j by omega] at h3
    · rw [List.getElem?_append_right (by simp; omega), List.getElem?_drop] at hv
      rw [World.cell?_setCells_out B vs p W ⟨B, j, none⟩ (fun _ _ => Or.inr (by show p + vs.length ≤ j; omega))]
      refine h.cell j ?_
      rw [← hv]
      congr 1
      simp
      omega
/-! What an operation reads. -/
section
variable {o : Oper} {a : Act} {W : World} {x : Operand} {B p : Nat} {cs : List Value}
theorem ex_load1 {v : Value} (t : TypeId) (hna : ∀ w, (isAgg t).run Tryz.prog w = .ok false w) (ho : o.op = .load t x) (hx : a.eval x = .pointer (some ⟨B, p, none⟩)) (hc : Holds W B cs) (hv : cs[p]? = some v) : (execOp a.eval o).run Tryz.prog W = .ok (.value v) W := by
  have h0 := hc.cell p hv
  unfold execOp
  simp only [ho, hx]
  simp [go_sem, h0, hna]
theorem ex_loadN {vs : List Value} (t : TypeId) (n : Nat) (hu : ∃ d, Tryz.prog.underlying t = some d ∧ d.isRow = true) (hi : (Tryz.prog.info? t).map (·.size) = some n) (ho : o.op = .load t x) (hx : a.eval x = .pointer (some ⟨B, p, none⟩)) (hc : Holds W B cs) (hv : (cs.drop p).take n = vs) (hn : vs.length = n) : (execOp a.eval o).run Tryz.prog W = .ok (.value (.agg vs.toArray)) W := by
  obtain ⟨d, hu, hd⟩ := hu
  have h0 := hc.mid p n
  rw [hv] at h0
  unfold execOp
  simp only [ho, hx, Instr.loadAt, Instr.sureAddr, Sem.run_bind, Sem.run_pure, Result.andThen_ok, run_loadVar_mid W B p t vs d h0 hu hd (by rw [hi, hn])]
end
/-! Descriptors. -/
/-- Of what was there in w, X has other blocks at most at E. -/
structure Fr (w X : World) (E : List Nat) : Prop where
  os : X.os = w.os
  tape : X.tape = w.tape
  output : X.output = w.output
  size : w.heap.size ≤ X.heap.size
  block : ∀ b, b < w.heap.size → b ∉ E → X.heap[b]? = w.heap[b]?
theorem Fr.refl (w : World) (E : List Nat) : Fr w w E := ⟨rfl, rfl, rfl, Nat.le_refl _, fun _ _ _ => rfl⟩
theorem Fr.trans {w X Y : World} {E E' : List Nat} (h : Fr w X E) (k : Fr X Y E') (hE : ∀ b ∈ E', b ∈ E ∨ w.heap.size ≤ b) : Fr w Y E :=
  ⟨k.os.trans h.os, k.tape.trans h.tape, k.output.trans h.output, Nat.le_trans h.size k.size, fun b hb he =>
    (k.block b (Nat.lt_of_lt_of_le hb h.size) (fun he' => (hE b he').elim he (fun h2 => by omega))).trans (h.block b hb he)⟩
theorem Fr.of_below {w X : World} (h : Below w.heap.size w X) (E : List Nat) : Fr w X E := ⟨h.os, h.tape, h.output, h.size, fun b hb _ => h.block b hb⟩
theorem Fr.below {w X : World} (h : Fr w X []) : Below w.heap.size w X := ⟨h.os, h.tape, h.output, h.size, fun b hb => h.block b hb (by simp)⟩
theorem Fr.on {w X Y : World} {E : List Nat} (h : Fr w X E) (k : Below X.heap.size X Y) : Fr w Y E := h.trans (Fr.of_below k []) (by simp)
theorem Fr.mono {w X : World} {E E' : List Nat} (h : Fr w X E) (hE : ∀ b ∈ E, b ∈ E' ∨ w.heap.size ≤ b) : Fr w X E' := (Fr.refl w E').trans h hE
theorem Fr.drew {w X : World} {E : List Nat} (h : Fr w X E) : Fr w X.drew E := ⟨h.os, h.tape, h.output, h.size, h.block⟩
theorem Fr.alloc {w X : World} {E : List Nat} (h : Fr w X E) (o : Obj) : Fr w (X.alloc o) E := h.on ((Below.refl _ _).alloc (Nat.le_refl _) _)
theorem os_setCells (b : Nat) : ∀ (vs : List Value) (o : Nat) (X : World), (X.setCells b o vs).os = X.os ∧ (X.setCells b o vs).tape = X.tape ∧ (X.setCells b o vs).output = X.output
  | [], _, _ => ⟨rfl, rfl, rfl⟩
  | v :: vs, o, X => by
    obtain ⟨h1, h2, h3⟩ := os_setCells b vs (o + 1) (X.setCell ⟨b, o, none⟩ v)
    rw [World.setCells]
    exact ⟨h1, h2, h3⟩
theorem Fr.setCells (X : World) (b p : Nat) (vs : List Value) : Fr X (X.setCells b p vs) [b] :=
  ⟨(os_setCells b vs p X).1, (os_setCells b vs p X).2.1, (os_setCells b vs p X).2.2, by rw [size_setCells]; exact Nat.le_refl _, fun g _ hg => heap_setCells b vs p X g (by simpa using hg)⟩
theorem Fr.grown {X Y : World} {row : Option Nat} (h : X.grownBy Y row) : Fr X Y row.toList :=
  ⟨h.os, h.tape, h.output, h.size, fun b hb hE => h.block b hb (fun e => hE (by rw [← e]; simp))⟩
/-- Our blocks hold what they held; of what was there ahead only blocks of E may have changed. -/
structure Hq (w X : World) (E : List Nat) (L : List (Nat × List Value)) : Prop where
  fr : Fr w X E
  all : ∀ q ∈ L, Holds X q.1 q.2 ∧ 0 < q.2.length
  nd : (L.map (·.1)).Nodup
theorem Hq.nil (w : World) (E : List Nat) : Hq w w E [] := ⟨Fr.refl _ _, (fun q hq => by cases hq), by simp⟩
theorem Hq.lt {w X : World} {E : List Nat} {L : List (Nat × List Value)} (h : Hq w X E L) : ∀ q ∈ L, q.1 < X.heap.size := fun q hq => (h.all q hq).1.lt (h.all q hq).2
theorem Hq.get {w X : World} {E : List Nat} {L : List (Nat × List Value)} (h : Hq w X E L) (i : Nat) {b : Nat} {cs : List Value} (hi : L[i]? = some (b, cs)) : Holds X b cs := (h.all _ (List.mem_of_getElem? hi)).1
theorem Hq.drew {w X : World} {E : List Nat} {L : List (Nat × List Value)} (h : Hq w X E L) : Hq w X.drew E L := ⟨h.fr.drew, fun q hq => ⟨(h.all q hq).1.block rfl, (h.all q hq).2⟩, h.nd⟩
theorem Hq.on {w X Y : World} {E : List Nat} {L : List (Nat × List Value)} (h : Hq w X E L) (k : Below X.heap.size X Y) : Hq w Y E L :=
  ⟨h.fr.on k, fun q hq => ⟨(h.all q hq).1.block (k.block _ (h.lt q hq)), (h.all q hq).2⟩, h.nd⟩
theorem Hq.step {w X Y : World} {E E' : List Nat} {L : List (Nat × List Value)} (h : Hq w X E L) (k : Fr X Y E') (hE : ∀ b ∈ E', b ∈ E ∨ w.heap.size ≤ b) (hL : ∀ q ∈ L, q.1 ∉ E') : Hq w Y E L :=
  ⟨h.fr.trans k hE, fun q hq => ⟨(h.all q hq).1.block (k.block _ (h.lt q hq) (hL q hq)), (h.all q hq).2⟩, h.nd⟩
theorem Hq.add {w X : World} {E : List Nat} {L : List (Nat × List Value)} (h : Hq w X E L) {b : Nat} {cs : List Value} (hb : Holds X b cs) (hc : 0 < cs.length) (hn : ∀ q ∈ L, q.1 ≠ b) : Hq w X E (L ++ [(b, cs)]) := by
  refine ⟨h.fr, fun q hq => ?_, ?_⟩
  · rcases List.mem_append.1 hq with hq | hq
    · exact h.all q hq
    · obtain rfl : q = (b, cs) := by simpa using hq
      exact ⟨hb, hc⟩
  · rw [List.map_append, List.nodup_append]
    refine ⟨h.nd, by simp, fun x hx y hy => ?_⟩
    obtain ⟨q, hq, rfl⟩ := List.mem_map.1 hx
    obtain rfl : y = b := by simpa using hy
    exact hn q hq
theorem Hq.new {w X : World} {E : List Nat} {L : List (Nat × List Value)} (h : Hq w X E L) (cs : List Value) (t : TypeId) (hc : 0 < cs.length) : Hq w (X.alloc (Obj.cells cs.toArray t)) E (L ++ [(X.heap.size, cs)]) :=
  (h.on ((Below.refl _ _).alloc (Nat.le_refl _) _)).add (Holds.new X cs t) hc (fun q hq => Nat.ne_of_lt (h.lt q hq))
theorem Hq.put {w X : World} {E : List Nat} {L : List (Nat × List Value)} (h : Hq w X E L) (i : Nat) {b : Nat} {cs : List Value} (hi : L[i]? = some (b, cs)) (p : Nat) (vs : List Value) (hp : p + vs.length ≤ cs.length) (hE : b ∈ E ∨ w.heap.size ≤ b) : Hq w (X.setCells b p vs) E (L.set i (b, cput cs p vs)) := by
  have hil := (List.getElem?_eq_some_iff.1 hi).1
  have hie := (List.getElem?_eq_some_iff.1 hi).2
  have hH := h.get i hi
  have hlen : (cput cs p vs).length = cs.length := by simp [cput]; omega
  refine ⟨h.fr.trans (Fr.setCells X b p vs) (by simpa using hE), fun q hq => ?_, ?_⟩
  · rcases List.getElem?_of_mem hq with ⟨j, hj⟩
    rw [List.getElem?_set] at hj
    split at hj
    · rename_i e
      subst e
      obtain rfl := Option.some.inj hj
      have h1 := (h.all _ (List.mem_of_getElem? hi)).2
      exact ⟨hH.put p vs hp, by simpa [hlen] using h1⟩
    · rename_i e
      have hm := List.mem_of_getElem? hj
      refine ⟨(h.all q hm).1.block (heap_setCells b vs p X q.1 ?_), (h.all q hm).2⟩
      intro eb
      have hjl := (List.getElem?_eq_some_iff.1 hj).1
      have h1 : (L.map (·.1))[i]? = some b := by simp [hi]
      have h2 : (L.map (·.1))[j]? = some b := by simp [hj, eb]
      have := (List.getElem?_inj (by simpa using hil) h.nd).1 (h1.trans h2.symm)
      exact e this
  · have e : (L.set i (b, cput cs p vs)).map (·.1) = L.map (·.1) := by
      rw [List.map_set]
      apply List.ext_getElem?
      intro j
      rw [List.getElem?_set]
      split
      · rename_i e
        subst e
        simp [hil, hie]
      · rfl
    rw [e]
    exact h.nd
end
section
open Go Go.Proofs Go.RowKit
theorem hsym {r s : Bool} {p : Sem Next} (h : r = s) (hy : ∀ w, p.run Tryz.prog w = .ok (.value (.bool r)) w) : ∀ w, p.run Tryz.prog w = .ok (.value (.bool s)) w := h ▸ hy
def goodK (k : KK) : Bool := (kVal k.s k.n).good
theorem goodK_eq (k : KK) : goodK k = if k.n = 0 then decide (k.s.size ≤ 1048576) && vS k.s else decide (1 ≤ k.n) && decide (k.n ≤ 65536) && k.s.toList.isEmpty := by
  unfold goodK kVal
  by_cases h : k.n = 0
  · rw [if_pos h, if_pos h]
    simp [VV.good, goodV, inG, strV, fitV, vS]
  · rw [if_neg h, if_neg h]
    simp [VV.good, goodV, inG, strV]
    cases k.s.toList.isEmpty <;> simp
theorem goodK_size {k : KK} (h : goodK k = true) : k.s.size ≤ 1048576 := good_size h
theorem goodK_n {k : KK} (h : goodK k = true) : 0 ≤ k.n ∧ k.n ≤ 65536 := by
  rw [goodK_eq] at h
  by_cases hn : k.n = 0
  · omega
  · rw [if_neg hn] at h
    simp at h
    omega
theorem subI (x y : Int) (hx : -1099511627776 ≤ x ∧ x ≤ 1099511627776) (hy : -1099511627776 ≤ y ∧ y ≤ 1099511627776) (w : World) : (binOp .sub 3 (.int .i64 x) (.int .i64 y)).run Tryz.prog w = .ok (.int .i64 (x - y)) w := by
  have e : IntKind.i64.wrap (x - y) = x - y := by
    rw [IntKind.wrap_i64]
    omega
  simp [binOp, go_sem, e]
theorem kd_range (s : ByteArray) (n : Int) : 0 ≤ kdOf s n ∧ kdOf s n ≤ 2 := by
  unfold kdOf
  split
  · split <;> omega
  · omega
theorem sgn_cmp (x y : Int) : (if x - y < 0 then (-1 : Int) else if 0 < x - y then 1 else 0) = Lib.compareInt x y := by
  unfold Lib.compareInt
  by_cases h : x < y
  · rw [if_pos (by omega), if_pos h]
  · rw [if_neg (by omega), if_neg h]
    by_cases h2 : x > y
    · rw [if_pos (by omega), if_pos h2]
    · rw [if_neg (by omega), if_neg h2]
theorem sgn_nat (x y : Nat) : (if (x : Int) - (y : Int) < 0 then (-1 : Int) else if 0 < (x : Int) - (y : Int) then 1 else 0) = cpN x y := by
  unfold cpN
  by_cases h : x < y
  · rw [if_pos (by omega), if_pos h]
  · rw [if_neg (by omega), if_neg h]
    by_cases h2 : y < x
    · rw [if_pos (by omega), if_pos h2]
    · rw [if_neg (by omega), if_neg h2]
theorem kn_le (s : ByteArray) (n : Int) : knOf s n ≤ 4294967294 := by
  unfold knOf
  split
  · cases h : ixOf (nums s) with
    | none => simp
    | some m => simpa using ixOf_le _ _ h
  · omega
end
section
open Go Go.Proofs Go.Maps Go.RowKit
/-! A table of the program. -/
instance decK : DecidableEq KK := fun a b => decidable_of_iff (a.s = b.s ∧ a.n = b.n) ⟨fun h => KK.ext' h.1 h.2, fun h => h ▸ ⟨rfl, rfl⟩⟩
/-- A row: its block, and what it holds. -/
structure RR where
  b : Nat
  k : KK
  d : DD
  n : Nat
  gone : Bool
def RR.cs (r : RR) : List Value := r.k.cs ++ (r.d.cs ++ [.int .u64 r.n, .bool r.gone])
theorem vcs_length (d : VV) : d.cs.length = 5 := rfl
theorem dcs_length (d : DD) : d.cs.length = 18 := rfl
theorem rcs_length (r : RR) : r.cs.length = 22 := rfl
def ptrs (l : List Nat) : List Value := l.map (fun b => .pointer (some ⟨b, 0, none⟩))
/-- A list of pointers that is ours. -/
def OwnP (W : World) (v : Value) (l : List Nat) : Prop := W.ownsRow 0 110 1 v l.length (ptrs l)
theorem OwnP.nil (W : World) : OwnP W (.slice none 0 0) [] := ⟨rfl, .inl ⟨rfl, rfl⟩⟩
theorem OwnP.lt {W : World} {v : Value} {l : List Nat} (h : OwnP W v l) : ∀ g, v.ownBlock = some g → g < W.heap.size := fun g hg => (World.ownsRow.lt h g hg).2
theorem OwnP.block {W W' : World} {v : Value} {l : List Nat} (h : OwnP W v l) (he : ∀ g, v.ownBlock = some g → W'.heap[g]? = W.heap[g]?) : OwnP W' v l := by
  obtain ⟨h1, h2⟩ := h
  refine ⟨h1, ?_⟩
  rcases h2 with h2 | ⟨g, cap, cur, rfl, h3, h4, h5⟩
  · exact .inl h2
  · exact .inr ⟨g, cap, cur, rfl, h3, (he g rfl).trans h4, h5⟩
structure TT where
  t : Nat
  m : Nat
  rv : Value
  rows : List RR
  last : Nat
def TT.live (T : TT) : List RR := T.rows.filter (fun r => !r.gone)
def TT.find (T : TT) (k : KK) : Option RR := T.live.find? (fun r => decide (r.k = k))
def TT.blocks (T : TT) : List Nat := T.t :: T.m :: (T.rv.ownBlock.toList ++ T.rows.map (·.b))
def TT.cs (T : TT) : List Value := [.map (some T.m), T.rv, .int .u64 T.last]
structure TT.Is (T : TT) (W : World) : Prop where
  tab : Holds W T.t T.cs
  map : MapIs W T.m T.last T.live.length (fun k => (T.find k).map (·.b))
  own : OwnP W T.rv (T.rows.map (·.b))
  rows : ∀ r ∈ T.rows, Holds W r.b r.cs
  nd : T.blocks.Nodup
  rise : T.rows.Pairwise (fun a b => a.n < b.n)
  num : ∀ r ∈ T.rows, 1 ≤ r.n ∧ r.n ≤ T.last
  keys : T.live.Pairwise (fun a b => a.k ≠ b.k)
  good : ∀ r ∈ T.live, goodK r.k = true
theorem TT.Is.lt {T : TT} {W : World} (h : T.Is W) : ∀ b ∈ T.blocks, b < W.heap.size := by
  intro b hb
  simp only [TT.blocks, List.mem_cons, List.mem_append, List.mem_map] at hb
  rcases hb with rfl | rfl | hb | ⟨r, hr, rfl⟩
  · exact h.tab.lt (by simp [TT.cs])
  · exact h.map.lt
  · exact h.own.lt b (by simpa using hb)
  · exact (h.rows r hr).lt (by simp [rcs_length])
theorem TT.Is.block {T : TT} {W W' : World} (h : T.Is W) (he : ∀ b ∈ T.blocks, W'.heap[b]? = W.heap[b]?) : T.Is W' :=
  ⟨h.tab.block (he _ (by simp [TT.blocks])), h.map.block (he _ (by simp [TT.blocks])), h.own.block (fun g hg => he g (by simp [TT.blocks, hg])), fun r hr => (h.rows r hr).block (he _ (by
    simp only [TT.blocks, List.mem_cons, List.mem_append, List.mem_map]
    exact .inr (.inr (.inr ⟨r, hr, rfl⟩)))), h.nd, h.rise, h.num, h.keys, h.good⟩
theorem TT.Is.on {T : TT} {W W' : World} (h : T.Is W) (hb : Below W.heap.size W W') : T.Is W' := h.block (fun b hb' => hb.block b (h.lt b hb'))
theorem TT.Is.fr {T : TT} {W W' : World} {E : List Nat} (h : T.Is W) (hb : Fr W W' E) (hE : ∀ b ∈ T.blocks, b ∉ E) : T.Is W' := h.block (fun b hb' => hb.block b (h.lt b hb') (hE b hb'))
theorem TT.Is.drew {T : TT} {W : World} (h : T.Is W) : T.Is W.drew := h.block (fun _ _ => rfl)
theorem TT.find_mem {T : TT} {k : KK} {r : RR} (h : T.find k = some r) : r ∈ T.rows ∧ r.gone = false ∧ r.k = k := by
  have h1 := List.mem_of_find?_eq_some h
  have h2 := List.find?_some h
  simp [TT.live] at h1 h2
  exact ⟨h1.1, h1.2, h2⟩
/-! Operations, by what they yield. -/
section
variable {md : Region.Mode} {ops : Array Oper} {rest : List Oper} {Q : Exit → Act → World → Prop} {S : World → Prop} {w w0 : World} {fuel : Nat} {listed : Array Bool} {a : Act} {o : Oper}
theorem gsem (i : Nat) (dst : Option Tmp) (v : Value) (hi : ops[i]? = some o) (hs : Region.noSelect ops = true) (hf : Region.free md ops listed i = true) (hr : (Region.ready md ops listed).contains i = true)
    (hQ : ∀ c a w, Q (.panic c) (a.put dst v) w → Q (.panic c) a w) (hd : o.dst = dst) (hw : Region.wanted o (yielded ops a.tmps) = true) (hy : ∀ X, S X → (execOp a.eval o).run Tryz.prog X = .ok (.value v) X)
    (hS : S w) (h : wpAnyH Tryz.prog md ops Q S fuel (listed.setIfInBounds i true) (a.put dst v) w) : wpAnyH Tryz.prog md ops Q S (fuel + 1) listed a w := by
  subst hd
  exact wpAnyH_take hi hs hf hr hQ (Or.inl ⟨hw, hy⟩) hS h
theorem rd {v : Value} (hw : Region.wanted o (yielded ops a.tmps) = true) (hy : (execOp a.eval o).run Tryz.prog w = .ok (.value v) w) (h : wpList Tryz.prog ops Q rest (a.put o.dst v) w) : wpList Tryz.prog ops Q (o :: rest) a w := by
  refine BigFrame.wpList_want hw fun K hK => ?_
  have hP := hK _ _ h
  unfold Oper.wp
  rw [hy]
  exact hP
theorem run_storeVar_any (w : World) (b p : Nat) (ty : TypeId) (v : Value) (vs : List Value) (hv : v.cells.toList = vs) (ht : w.there b p vs.length) (hi : (Tryz.prog.info? ty).map (·.size) = some vs.length) (h1 : ∀ u ∈ vs, u.oneCell' = true) :
    (storeVar ty ⟨b, p, none⟩ v).run Tryz.prog w = .ok () (w.setCells b p vs) := by
  have := run_storeCells_cells (P := Tryz.prog) b p vs 0 w (fun j hj => by simpa using (ht j hj).1) (fun j hj => by simpa using (ht j hj).2) h1
  cases hq : Tryz.prog.info? ty with
  | none => simp [hq] at hi
  | some i =>
    have hs : v.cells.size = i.size := by
      have e : v.cells.size = vs.length := by rw [← hv]; simp
      simp [hq] at hi; omega
    simp only [Nat.add_zero] at this
    simp [storeVar, sizeOf, typeInfo, hq, hs, hv, this]
theorem st {E : List Nat} {L : List (Nat × List Value)} {b p : Nat} {cs vs : List Value} {v : Value} {x y : Operand} (i : Nat) (t : TypeId) (hw : Region.wanted o (yielded ops a.tmps) = true) (ho : o.op = .store t x y) (hx : a.eval x = .pointer (some ⟨b, p, none⟩)) (hy : a.eval y = v)
    (hv : v.cells.toList = vs) (h1 : ∀ u ∈ vs, u.oneCell' = true) (hi : (Tryz.prog.info? t).map (·.size) = some vs.length) (hL : Hq w0 w E L) (hg : L[i]? = some (b, cs)) (hp : p + vs.length ≤ cs.length) (hE : b ∈ E ∨ w0.heap.size ≤ b)
    (h : ∀ X, Hq w0 X E (L.set i (b, cput cs p vs)) → Fr w X [b] → X.heap.size = w.heap.size → wpList Tryz.prog ops Q rest (a.put o.dst undef) X) : wpList Tryz.prog ops Q (o :: rest) a w := by
  refine BigFrame.wpList_want hw fun K hK => ?_
  have hP := hK _ _ (h _ (hL.put i hg p vs hp hE) (Fr.setCells w b p vs) (size_setCells _ _ _))
  unfold Oper.wp execOp
  simp only [ho, hx, hy, Instr.storeAt, Instr.sureAddr, Sem.run_bind, Sem.run_pure, Result.andThen_ok, run_storeVar_any w b p t v vs hv ((hL.get i hg).there p vs.length hp) hi h1]
  exact hP
theorem bx {E : List Nat} {L : List (Nat × List Value)} {v : Value} {x : Operand} (t : TypeId) (cs : List Value) (hw : Region.wanted o (yielded ops a.tmps) = true) (ho : o.op = .box t x) (hx : a.eval x = v) (hv : v.cells.toList = cs) (hc : 0 < cs.length) (hL : Hq w0 w E L)
    (h : ∀ X B, B = w.heap.size → Hq w0 X E (L ++ [(B, cs)]) → Below w.heap.size w X → wpList Tryz.prog ops Q rest (a.put o.dst (.pointer (some ⟨B, 0, none⟩))) X) : wpList Tryz.prog ops Q (o :: rest) a w := by
  refine BigFrame.wpList_want hw fun K hK => ?_
  have e : v.cells = cs.toArray := by rw [← hv]
  have hP := hK _ _ (h _ _ rfl (hL.new cs t hc) ((Below.refl _ _).alloc (Nat.le_refl _) _))
  have e2 : (Instr.box t v).run Tryz.prog w = .ok (.pointer (some ⟨w.heap.size, 0, none⟩)) (w.alloc (Obj.cells cs.toArray t)) := by rw [← e]; rfl
  unfold Oper.wp execOp
  simp only [ho, hx]
  simp [e2]
  exact hP
end
