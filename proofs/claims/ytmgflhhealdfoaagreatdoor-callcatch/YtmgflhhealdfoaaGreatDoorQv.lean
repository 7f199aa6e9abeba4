import Derived.Test.YtmgflhhealdfoaaGreatDoorQd
import Derived.Test.YtmgflhhealdfoaaGreatDoorQf
import Derived.Maps.OwnSet
import Derived.Maps.Own
import Derived.DeepKeys4
import Derived.Laws.AppendOwn
import Derived.Deep.LoopGhost
import Derived.Sort.Statements
import Derived.BigRegion
import Derived.Laws.OwnMore
import Derived.Laws.MakeOwn
import Derived.Deep.MidRow
import Derived.BigFrame
import Derived.Laws.AppendOwnNone
import Derived.OwnWalk
import Derived.Great.BuildSlice
import Derived.RangeFuncRecord
set_option linter.all false
namespace Go.Proofs.YtmgflhhealdfoaaGreatDoor
section
open Go Go.Proofs Go.Maps
theorem laidOut : laidOutB Tryz.prog = true := by kernel_rfl
theorem row33 : (26 : TypeId) < Tryz.prog.types.size := of_decide_eq_true (by kernel_rfl)
theorem key33 : Tryz.prog.keyTypeAt 2 26 = true := by kernel_rfl
theorem law33 : Keyed Tryz.prog 26 := Keyed.of_law (deep_law_laid laidOut (m := 2) (by omega) row33 key33 (by rw [Tryz.underlying26]))
theorem keyT33 : Tryz.prog.keyType 26 = true := by kernel_rfl
theorem size_types' : decide ((1 : Nat) ≤ Tryz.prog.types.size) = true := by kernel_rfl
theorem size_types : ∃ n : Nat, Tryz.prog.types.size + 1 = n + 2 := by
  have h : (1 : Nat) ≤ Tryz.prog.types.size := of_decide_eq_true size_types'
  generalize Tryz.prog.types.size = m at h
  exact ⟨m - 1, by omega⟩
/-- What a key reads as. -/
def klit (s : ByteArray) (n : Int) : Lit := .string (keyBytes [.string s.data.toList, .int .i64 n])
theorem keyOf33 (s : ByteArray) (n : Int) (hs : s.size ≤ maxLen) (hn : (Lit.int .i64 n).wf = true) : keyOf Tryz.prog 26 (.agg #[.string s, .int .i64 n]) = some (klit s n) := by
  obtain ⟨N, hN⟩ := size_types
  unfold keyOf
  rw [Tryz.underlying26]
  simp only []
  rw [hN]
  have c33 : Tryz.prog.cellsOf 26 = 2 := by kernel_rfl
  have hf : Value.formed Tryz.prog 26 (.agg #[.string s, .int .i64 n]) = true := by
    simp [Value.formed, Tryz.underlying26, Tryz.underlying3, Tryz.underlying9, c33]
  have c9 : Tryz.prog.cellsOf 9 = 1 := by kernel_rfl
  have c3 : Tryz.prog.cellsOf 3 = 1 := by kernel_rfl
  rw [hf, keyT33]
  simp [Program.keyLits, Tryz.underlying26, Tryz.underlying3, Tryz.underlying9, c9, c3, c33, hs, hn, Value.cells, klit]
theorem klit_inj {s s' : ByteArray} {n n' : Int} (hs : s.size ≤ maxLen) (hn : (Lit.int .i64 n).wf = true) (hs' : s'.size ≤ maxLen) (hn' : (Lit.int .i64 n').wf = true) (h : klit s n = klit s' n') : s = s' ∧ n = n' := by
  have := law33.inj (keyOf33 s n hs hn) (h ▸ keyOf33 s' n' hs' hn')
  simpa using this
theorem klit_key {s : ByteArray} {n : Int} (hs : s.size ≤ maxLen) (hn : (Lit.int .i64 n).wf = true) : WideAt.IsKeyLit (klit s n) := law33.key (keyOf33 s n hs hn)
end
section
open Go Go.Proofs Go.RowKit
theorem below_alloc1 (w : World) (o : Obj) : Below w.heap.size w (w.alloc o) := (Below.refl _ _).alloc (Nat.le_refl _) _
def keyV (s : ByteArray) (n : Int) : Value := .agg #[.string s, .int .i64 n]
theorem run_store_float (P : Program) (w : World) (a : Addr) (m : Mode) (k : FloatKind) (x : Nat) : (store a (.float k x) m).run P w = stored P w a (.float k x) m := run_store P w a _ m rfl
attribute [local go_sem] bits_run run_store_float
/-- The value that a key is. -/
def kVal (s : ByteArray) (n : Int) : VV := if n = 0 then ⟨5, false, 0, s, 0⟩ else ⟨6, false, 0, s, n⟩
theorem kbelow2 (w : World) (o1 o2 : Obj) : Below w.heap.size w ((w.alloc o1).alloc o2) := ((Below.refl _ _).alloc (Nat.le_refl _) _).alloc (by simp) _
set_option maxRecDepth 100000 in
theorem asValue21 (s : ByteArray) (n : Int) (w : World) : Calls Tryz.prog 69 #[keyV s n] w fun e w' => e = .returned (kVal s n).agg ∧ Below w.heap.size w w' := by
  unfold keyV
  by_cases hn : n = 0
  · subst hn
    have e1 : kVal s 0 = ⟨5, false, 0, s, 0⟩ := by unfold kVal; rw [if_pos rfl]
    rw [e1]
    unfold VV.agg
    go_enter Tryz.func69, Tryz.ntmps69
    go_wp2
    simp [bodyPost, results, Tryz.results69, go_sem]
    exact kbelow2 ..
  · have e1 : kVal s n = ⟨6, false, 0, s, n⟩ := by unfold kVal; rw [if_neg hn]
    rw [e1]
    unfold VV.agg
    go_enter Tryz.func69, Tryz.ntmps69
    go_wp2
    simp [bodyPost, results, Tryz.results69, go_sem]
    exact kbelow2 ..
set_option maxRecDepth 100000 in
theorem vcheck20 (v : VV) (w : World) (hT : Lib.Utf8Tabs 1 2 w) : Calls Tryz.prog 47 #[v.agg] w fun e w' => e = .returned (.int .i64 (if v.good then 0 else 5)) ∧ Below w.heap.size w w' := by
  have HI := hide (fun w (hT : Lib.Utf8Tabs 1 2 w) => inside_any v.k v.b v.x v.s v.i w hT)
  have HT := hide hT
  unfold VV.agg VV.good
  generalize goodV v.k v.b v.x v.s v.i = g at *
  clear hT
  go_enter Tryz.func47, Tryz.ntmps47
  go_wp2_with fail
  refine (unhide HI _ (tabs_below (unhide HT) (below_alloc1 _ _))).mono ?_
  rintro e w1 ⟨rfl, hb⟩
  have HB := hide (((below_alloc1 w _).trans (hb.mono (by simp))))
  clear hb
  cases g
  · go_wp2
    go_ret
    exact ⟨rfl, unhide HB⟩
  · go_wp2
    go_ret
    exact ⟨rfl, unhide HB⟩
set_option maxRecDepth 100000 in
theorem check12 (s : ByteArray) (n : Int) (w : World) (hT : Lib.Utf8Tabs 1 2 w) : Calls Tryz.prog 43 #[keyV s n] w fun e w' => e = .returned (.int .i64 (if (kVal s n).good then 0 else 5)) ∧ Below w.heap.size w w' := by
  have HA := hide (fun w => asValue21 s n w)
  have HI := hide (fun w (hT : Lib.Utf8Tabs 1 2 w) => vcheck20 (kVal s n) w hT)
  have HT := hide hT
  unfold keyV at *
  generalize (kVal s n).agg = v at *
  generalize (if (kVal s n).good then (0 : Int) else 5) = g at *
  clear hT
  go_enter Tryz.func43, Tryz.ntmps43
  go_wp2_with fail
  refine (unhide HA _).mono ?_
  rintro e w1 ⟨rfl, hb⟩
  have HB := hide (((below_alloc1 w _).trans (hb.mono (by simp))))
  clear hb
  go_wp2_with fail
  refine (unhide HI _ (tabs_below (unhide HT) (unhide HB))).mono ?_
  rintro e w2 ⟨rfl, hb2⟩
  have HB2 := hide ((unhide HB).trans (hb2.mono (unhide HB).size))
  clear hb2
  go_wp2
  go_ret
  exact ⟨rfl, unhide HB2⟩
theorem good_size {s : ByteArray} {n : Int} (h : (kVal s n).good = true) : s.size ≤ 1048576 := by
  unfold kVal at h
  by_cases hn : n = 0
  · rw [if_pos hn] at h
    rcases hf : fitV s with _ | _
    · simp [VV.good, goodV, inG, hf] at h
    · unfold fitV at hf
      simp at hf
      exact hf.1
  · rw [if_neg hn] at h
    have : s.toList.isEmpty = true := by
      cases he : s.toList.isEmpty
      · simp [VV.good, goodV, inG, strV, he] at h
      · rfl
    rw [empty_of this]
    decide
/-- A key of the program. -/
structure KK where
  s : ByteArray
  n : Int
def KK.agg (k : KK) : Value := .agg #[.string k.s, .int .i64 k.n]
def KK.cs (k : KK) : List Value := [.string k.s, .int .i64 k.n]
theorem KK.ext' {a b : KK} (h1 : a.s = b.s) (h2 : a.n = b.n) : a = b := by cases a; cases b; cases h1; cases h2; rfl
def zeroK : KK := ⟨ByteArray.empty, 0⟩
theorem heap_setCells (b : Nat) : ∀ (vs : List Value) (o : Nat) (X : World) (g : Nat), g ≠ b → (X.setCells b o vs).heap[g]? = X.heap[g]?
  | [], _, _, _, _ => rfl
  | v :: vs, o, X, g, h => by
    rw [World.setCells, heap_setCells b vs _ _ g h]
    simp [World.setCell, Array.getElem?_modify, Ne.symm h]
theorem size_setCells {b : Nat} : ∀ (vs : List Value) (o : Nat) (W : World), (W.setCells b o vs).heap.size = W.heap.size
  | [], _, _ => rfl
  | v :: vs, o, W => by
    rw [World.setCells, size_setCells vs]
    simp [World.setCell]
theorem below_setCells {w : World} {b : Nat} (hb : w.heap.size ≤ b) : ∀ (vs : List Value) (o : Nat) (W : World), Below w.heap.size w W → Below w.heap.size w (W.setCells b o vs)
  | [], _, _, h => h
  | v :: vs, o, W, h => below_setCells hb vs _ _ (h.setCell (by exact hb) _)
section
variable {ops : Array Oper} {rest : List Oper} {o : Oper} {a : Act} {w w0 : World} {Q : Exit → Act → World → Prop} {l : List (Nat × KK)} {x y : Operand} {b : Nat} {d u : KK}
end
/-! Rows of keys. -/
section
variable {ops : Array Oper} {rest : List Oper} {o : Oper} {a : Act} {w : World} {Q : Exit → Act → World → Prop} {s x : Operand} {base : Nat} {l m : List KK} {v u : Value}
end
section
variable {md : Region.Mode} {ops : Array Oper} {Q : Exit → Act → World → Prop} {S : World → Prop} {w : World} {fuel : Nat} {listed : Array Bool} {a : Act} {o : Oper}
end
section
variable {ops : Array Oper} {rest : List Oper} {o : Oper} {a : Act} {w : World} {Q : Exit → Act → World → Prop} {x ix : Operand} {b off n cap j p : Nat} {d : KK}
end
end
section
open Go Go.Proofs Go.Maps Go.RowKit
/-! A map from keys to rows. -/
/-- How a pointer to a row reads: by its block. -/
def ptrR : Value → Option (DataW Unit × List MemPlace)
  | .pointer none => some (.nil, [])
  | .pointer (some ⟨b, 0, none⟩) => some (.lit (.int .i64 (b : Nat)), [])
  | _ => none
/-- The pointer to a row's block. -/
def pv : Option Nat → Value
  | none => .pointer none
  | some b => .pointer (some ⟨b, 0, none⟩)
def pd : Option Nat → DataW Unit
  | none => .nil
  | some b => .lit (.int .i64 (b : Nat))
theorem ptrR_pv (o : Option Nat) : ptrR (pv o) = some (pd o, []) := by cases o <;> rfl
theorem pd_inj {o o' : Option Nat} (h : pd o = pd o') : o = o' := by
  cases o <;> cases o' <;> simp [pd] at h ⊢
  omega
theorem ptrR_inv {v : Value} {o : Option Nat} {ps : List MemPlace} (h : ptrR v = some (pd o, ps)) : v = pv o := by
  unfold ptrR at h
  split at h
  · have e := congrArg Prod.fst (Option.some.inj h)
    rw [← pd_inj (o := none) (o' := o) e]; rfl
  · rename_i b
    have e := congrArg Prod.fst (Option.some.inj h)
    rw [← pd_inj (o := some b) (o' := o) e]; rfl
  · cases h
def OkK (k : KK) : Prop := k.s.size ≤ maxLen ∧ (Lit.int .i64 k.n).wf = true
def kl (k : KK) : Lit := klit k.s k.n
theorem keyOfK {k : KK} (h : OkK k) : keyOf Tryz.prog 26 k.agg = some (kl k) := keyOf33 k.s k.n h.1 h.2
theorem kl_inj {k k' : KK} (h : OkK k) (h' : OkK k') (e : kl k = kl k') : k = k' := by
  obtain ⟨h1, h2⟩ := klit_inj h.1 h.2 h'.1 h'.2 e
  exact KK.ext' h1 h2
theorem kl_key {k : KK} (h : OkK k) : WideAt.IsKeyLit (kl k) := klit_key h.1 h.2
/-- Block b is a map of sz keys: key k leads to the row in block F k. -/
def MapIs (w : World) (b n sz : Nat) (F : KK → Option Nat) : Prop :=
  ∃ D : DataW Unit, w.ownsMap Tryz.prog 26 ptrR b n D ∧ Maps.size D = sz ∧ ∀ k, OkK k → D.atKey (kl k) .nil = pd (F k) ∧ Maps.has D (kl k) = (F k).isSome
theorem MapIs.made (w : World) : MapIs (w.alloc (.map #[] 0)) w.heap.size 0 0 (fun _ => none) :=
  ⟨_, World.ownsMap_made w _ _ _, rfl, fun k _ => ⟨rfl, rfl⟩⟩
theorem MapIs.lt {w : World} {b n sz : Nat} {F : KK → Option Nat} (h : MapIs w b n sz F) : b < w.heap.size := by
  obtain ⟨D, h, -⟩ := h
  exact h.lt
theorem MapIs.block {w w' : World} {b n sz : Nat} {F : KK → Option Nat} (h : MapIs w b n sz F) (he : w'.heap[b]? = w.heap[b]?) : MapIs w' b n sz F := by
  obtain ⟨D, ⟨es, clock, hb, Ft, hs, hD⟩, h2, h3⟩ := h
  exact ⟨D, ⟨es, clock, he.trans hb, Ft, hs, hD⟩, h2, h3⟩
theorem zero74 (w : World) : (zeroValue 168).run Tryz.prog w = .ok (.pointer none) w := by kernel_rfl
theorem MapIs.look {w : World} {b n sz : Nat} {F : KK → Option Nat} (h : MapIs w b n sz F) {k : KK} (hk : OkK k) :
    (Instr.lookup 141 (.map (some b)) k.agg true).run Tryz.prog w = .ok (.tuple #[pv (F k), .bool (F k).isSome]) w := by
  obtain ⟨D, h, h2, h3⟩ := h
  obtain ⟨v, ps, hrun, hv⟩ := h.look_ok law33 Tryz.underlying141 (zero74 w) (ptrR_pv none) (keyOfK hk)
  obtain ⟨h4, h5⟩ := h3 k hk
  have hv' : ptrR v = some (pd (F k), ps) := by rw [← h4]; exact hv
  rw [hrun, h5, ptrR_inv hv']
theorem MapIs.len {w : World} {b n sz : Nat} {F : KK → Option Nat} (h : MapIs w b n sz F) (ty : TypeId) : (Builtin.len_ #[141] ty #[.map (some b)]).run Tryz.prog w = .ok (.int .i64 sz) w := by
  obtain ⟨D, h, h2, h3⟩ := h
  rw [h.len Tryz.underlying141 ty, h2]
/-- One key is given a row. -/
def putF (F : KK → Option Nat) (k : KK) (r : Option Nat) : KK → Option Nat := fun q => if q.s = k.s ∧ q.n = k.n then r else F q
theorem putF_same (F : KK → Option Nat) (k : KK) (r : Option Nat) : putF F k r k = r := by simp [putF]
theorem putF_other {F : KK → Option Nat} {k q : KK} (h : q ≠ k) (r : Option Nat) : putF F k r q = F q := by
  unfold putF
  rw [if_neg (fun e => h (KK.ext' e.1 e.2))]
theorem MapIs.store {w : World} {b n sz : Nat} {F : KK → Option Nat} (h : MapIs w b n sz F) {k : KK} (hk : OkK k) (hn : n < maxLen) (r : Nat) :
    ∃ w', (Instr.mapUpdate 141 (.map (some b)) k.agg (pv (some r))).run Tryz.prog w = .ok () w' ∧ MapIs w' b (n + 1) (if (F k).isSome then sz else sz + 1) (putF F k (some r)) ∧ w.mapTurned w' b := by
  obtain ⟨D, h, h2, h3⟩ := h
  obtain ⟨w', hrun, ho, ht⟩ := h.store law33 Tryz.underlying141 hn (keyOfK hk) (ptrR_pv (some r))
  have ti := h.tidy law33
  refine ⟨w', hrun, ⟨_, ho, ?_, fun q hq => ?_⟩, ht⟩
  · rw [size_put ti, (h3 k hk).2, h2]
  · by_cases e : q = k
    · subst e
      rw [atKey_put_same ti.isMap (kl_key hk), has_put_same ti.isMap (kl_key hk), putF_same]
      exact ⟨rfl, rfl⟩
    · have ne : kl q ≠ kl k := fun e' => e (kl_inj hq hk e')
      rw [atKey_put_other ne, has_put_other ne, putF_other e]
      exact h3 q hq
/-! Blocks of cells. -/
/-- Block B holds these cells, and may be written. -/
def Holds (W : World) (B : Nat) (cs : List Value) : Prop := (∀ j, W.frozen? ⟨B, j, none⟩ = false) ∧ W.rangeAt B 0 cs
theorem Holds.block {W W1 : World} {B : Nat} {cs : List Value} (h : Holds W B cs) (he : W1.heap[B]? = W.heap[B]?) : Holds W1 B cs := by
  have hc : ∀ j, W1.cell? ⟨B, j, none⟩ = W.cell? ⟨B, j, none⟩ := fun j => World.cell?_of_block he
  have hf : ∀ j, W1.frozen? ⟨B, j, none⟩ = W.frozen? ⟨B, j, none⟩ := fun j => World.frozen?_of_block he
  unfold Holds World.rangeAt at *
  simp only [hc, hf]
  exact h
theorem Holds.new (w : World) (cs : List Value) (t : TypeId) : Holds (w.alloc (Obj.cells cs.toArray t)) w.heap.size cs := by
  refine ⟨fun j => ?_, fun j v hv => ?_⟩
  · simp [go_sem]
  · simp [go_sem]
    exact hv
theorem Holds.cell {W : World} {B : Nat} {cs : List Value} (h : Holds W B cs) (p : Nat) {v : Value} (hp : cs[p]? = some v) : W.cell? ⟨B, p, none⟩ = some v := by
  have := h.2 p v hp
  simpa using this
theorem Holds.mid {W : World} {B : Nat} {cs : List Value} (h : Holds W B cs) (p n : Nat) : W.rangeAt B p ((cs.drop p).take n) := by
  intro j v hv
  rw [List.getElem?_take] at hv
  split at hv
  · rw [List.getElem?_drop] at hv
    exact h.cell (p + j) hv
  · cases hv
theorem Holds.there {W : World} {B : Nat} {cs : List Value} (h : Holds W B cs) (p n : Nat) (hp : p + n ≤ cs.length) : W.there B p n := by
  intro j hj
  refine ⟨?_, h.1 _⟩
  rw [h.cell (p + j) (List.getElem?_eq_getElem (by omega))]
  rfl
theorem Holds.lt {W : World} {B : Nat} {cs : List Value} (h : Holds W B cs) (hc : 0 < cs.length) : B < W.heap.size := by
  have h0 := h.cell 0 (List.getElem?_eq_getElem hc)
  rcases Nat.lt_or_ge B W.heap.size with h1 | h1
  · exact h1
  · exfalso
    have e : W.heap[B]? = none := Array.getElem?_eq_none h1
    simp [World.cell?, e] at h0
/-- Cells from p on are others. -/
def cput (cs : List Value) (p : Nat) (vs : List Value) : List Value := cs.take p ++ vs ++ cs.drop (p + vs.length)
theorem Holds.put {W : World} {B : Nat} {cs : List Value} (h : Holds W B cs) (p : Nat) (vs : List Value) (hp : p + vs.length ≤ cs.length) : Holds (W.setCells B p vs) B (cput cs p vs) := by
  refine ⟨fun j => by rw [World.frozen?_setCells]; exact h.1 j, fun j v hv => ?_⟩
  unfold cput at hv
  have hth := h.there p vs.length hp
  have e0 : (⟨B, 0 + j, none⟩ : Addr) = ⟨B, j, none⟩ := by simp
  rw [e0]
  by_cases h1 : j < p
  · rw [List.getElem?_append_left (by simp; omega), List.getElem?_append_left (by simp; omega), List.getElem?_take, if_pos h1] at hv
    rw [World.cell?_setCells_out B vs p W ⟨B, j, none⟩ (fun _ _ => Or.inl h1)]
    exact h.cell j hv
  · by_cases h2 : j < p + vs.length
    · rw [List.getElem?_append_left (by simp; omega), List.getElem?_append_right (by simp; omega)] at hv
      have h3 := World.rangeAt_setCells_same W B p vs hth (j - p) v (by simpa [Nat.min_eq_left (by omega : p ≤ cs.length)] using hv)
      rwa [show p + (j - p) = j by omega] at h3
    · rw [List.getElem?_append_right (by simp; omega), List.getElem?_drop] at hv
      rw [World.cell?_setCells_out B vs p W ⟨B, j, none⟩ (fun _ _ => Or.inr (by show p + vs.length ≤ j; omega))]
      refine h.cell j ?_
      rw [← hv]
      congr 1
      simp
      omega
/-! What an operation reads. -/
section
variable {o : Oper} {a : Act} {W : World} {x : Operand} {B p : Nat} {cs : List Value}
theorem ex_load1 {v : Value} (t : TypeId) (hna : ∀ w, (isAgg t).run Tryz.prog w = .ok false w) (ho : o.op = .load t x) (hx : a.eval x = .pointer (some ⟨B, p, none⟩)) (hc : Holds W B cs) (hv : cs[p]? = some v) : (execOp a.eval o).run Tryz.prog W = .ok (.value v) W := by
  have h0 := hc.cell p hv
  unfold execOp
  simp only [ho, hx]
  simp [go_sem, h0, hna]
theorem ex_loadN {vs : List Value} (t : TypeId) (n : Nat) (hu : ∃ d, Tryz.prog.underlying t = some d ∧ d.isRow = true) (hi : (Tryz.prog.info? t).map (·.size) = some n) (ho : o.op = .load t x) (hx : a.eval x = .pointer (some ⟨B, p, none⟩)) (hc : Holds W B cs) (hv : (cs.drop p).take n = vs) (hn : vs.length = n) : (execOp a.eval o).run Tryz.prog W = .ok (.value (.agg vs.toArray)) W := by
  obtain ⟨d, hu, hd⟩ := hu
  have h0 := hc.mid p n
  rw [hv] at h0
  unfold execOp
  simp only [ho, hx, Instr.loadAt, Instr.sureAddr, Sem.run_bind, Sem.run_pure, Result.andThen_ok, run_loadVar_mid W B p t vs d h0 hu hd (by rw [hi, hn])]
end
end
section
open Go Go.Proofs Go.RowKit
def goodK (k : KK) : Bool := (kVal k.s k.n).good
theorem goodK_eq (k : KK) : goodK k = if k.n = 0 then decide (k.s.size ≤ 1048576) && vS k.s else decide (1 ≤ k.n) && decide (k.n ≤ 65536) && k.s.toList.isEmpty := by
  unfold goodK kVal
  by_cases h : k.n = 0
  · rw [if_pos h, if_pos h]
    simp [VV.good, goodV, inG, strV, fitV, vS]
  · rw [if_neg h, if_neg h]
    simp [VV.good, goodV, inG, strV]
    cases k.s.toList.isEmpty <;> simp
theorem goodK_size {k : KK} (h : goodK k = true) : k.s.size ≤ 1048576 := good_size h
theorem goodK_n {k : KK} (h : goodK k = true) : 0 ≤ k.n ∧ k.n ≤ 65536 := by
  rw [goodK_eq] at h
  by_cases hn : k.n = 0
  · omega
  · rw [if_neg hn] at h
    simp at h
    omega
/-- append onto one's own row: the row's block is the old one, or a new one. -/
theorem append_fresh (w : World) (base : Nat) (t ty e : TypeId) (i : TypeInfo) (z : Value) (size bytes : Nat) (ht : Tryz.prog.underlying t = some (.slice e)) (hi : Tryz.prog.info? e = some i) (hz : i.zero = some z)
    (hsize : i.size = size) (hby : i.bytes = bytes) (hzs : z.cells.size = size) (hsz : 0 < size) (v : Value) (n : Nat) (xs : List Value) (hown : w.ownsRow base e size v n xs)
    (a : Addr) (m c : Nat) (news : List Value) (hl : news.length = m * size) (hnews : ∀ j u, news[j]? = some u → w.cell? (a.add j) = some u) (h1 : ∀ u ∈ news, u.oneCell' = true)
    (h63 : n + m ≤ maxLen) (hbytes : (n + m) * bytes ≤ 140737488355328) (hbase : base ≤ w.heap.size) :
    ∃ v' w', (Builtin.append_ #[t, t] ty #[v, .slice (some a) m c]).run Tryz.prog w = .ok v' w' ∧ w'.ownsRow base e size v' (n + m) (xs ++ news) ∧ w.grownBy w' v.ownBlock ∧ (v'.ownBlock = v.ownBlock ∨ v'.ownBlock = some w.heap.size) := by
  obtain ⟨v', w', hr, ho, hg, hiff⟩ := run_append_own w base t ty e i z size bytes ht hi hz hsize hby hzs hsz v n xs hown a m c news hl hnews h1 h63 hbytes hbase
  refine ⟨v', w', hr, ho, hg, ?_⟩
  have hm : n + m ≤ 9223372036854775807 := by simp only [maxLen] at h63; omega
  have inj : ∀ {v2 : Value} {w2 : World}, (Builtin.append_ #[t, t] ty #[v, .slice (some a) m c]).run Tryz.prog w = .ok v2 w2 → v' = v2 := fun h2 => by
    rw [hr] at h2
    injection h2
  subst hsize
  subst hby
  rcases hown.2 with ⟨rfl, rfl⟩ | ⟨g, cap, cur, rfl, hbg, hgg, hnc, hcm, hcs, htake⟩
  · by_cases h0 : m = 0
    · exact Or.inl (by rw [hiff.2 ⟨rfl, h0⟩])
    · right
      have hb := hbytes
      rw [Nat.zero_add] at hb
      rw [inj (run_append_nil w t ty e i z ht hi hz a m c news hl hnews (by omega) (by omega) (by omega))]
      rfl
  · by_cases hroom : n + m ≤ cap
    · left
      have hfit : n * i.size + news.length ≤ cur.size := by rw [hl, hcs, ← Nat.add_mul]; exact Nat.mul_le_mul_right _ hroom
      rw [inj (run_append_room w t ty e i ht hi g n cap cur hgg a m c news hl hnews h1 hroom hfit)]
      rfl
    · right
      rw [inj (run_append_grow w t ty e i z ht hi hz ⟨g, 0, none⟩ n cap xs hown.1 (hown.cells (g := g) rfl) a m c news hl hnews (by omega) (by omega) (growslice_fits (by omega) hbytes))]
      rfl
def Fresh (w : World) (v v' : Value) : Prop := v'.ownBlock = v.ownBlock ∨ v'.ownBlock = some w.heap.size
section
variable {ops : Array Oper} {rest : List Oper} {o : Oper} {a : Act} {w : World} {Q : Exit → Act → World → Prop} {s x : Operand} {base : Nat} {l m : List KK} {v u : Value}
end
section
variable {w W W' : World} {v3 v4 v5 v' : Value} {d : List Nat} {ks ys : List KK}
end
