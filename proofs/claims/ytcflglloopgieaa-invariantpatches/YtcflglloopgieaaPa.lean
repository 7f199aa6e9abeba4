import Derived.WalkKit
import Derived.Below
import Derived.Deep.QuietTactic
import Derived.BigQuiet
import Derived.Laws.BitsLemmas
import Derived.WalkSmall
import Derived.LoopTactic
import Derived.Laws.Cover2
import Derived.Laws.FloatArith
import Derived.WalkSpells
import Derived.WalkLawsBesides
import Derived.Laws.BitsAllLaws
import Derived.Laws.BytesArg
import Derived.Laws.IdiomStrings
import Derived.Deep.AppendLies
import Derived.Deep.RegionHeld3
import Derived.Deep.MidRow
import Derived.BigFrame
import Derived.Deep.LoopGhost
import Derived.Great.BuildSlice
import Derived.Laws.AppendOwnNone
import Derived.Laws.MakeOwn
import Derived.Laws.OwnMore
import Derived.Maps.OwnSet
import Derived.Maps.Own
import Derived.Carry
import Derived.DeepKeys4
import Derived.Shelf.Small.Wraps
import Derived.Shelf.LaysM
import Derived.Shelf.Strconv.Clone
import Derived.Test.YtcflglloopgieaaProg
import Derived.Test.YtcflglloopgieaaChecked
/- the base of this seat: see NOTES -/
namespace Go.Proofs
open Go.Shelf
def Try.laysM316_ren : Go.Shelf.Ren := ⟨fun | 316 => 30 | n => n, fun | 9 => 9 | 3 => 3 | 4 => 4 | 37 => 81 | 0 => 0 | 127 => 82 | 5 => 5 | n => n, fun | n => n⟩
theorem Try.laysM316 : Go.Proofs.LaysM.n316 Try.prog Try.laysM316_ren := {
  mixed := by kernel_rfl
  f316 := Try.func30.trans (congrArg some (by kernel_rfl))
  t0 := Try.underlying0
  a0 := Try.isAgg0
  z0 := Try.sizeOf0
  v0 := Try.zeroValue0
  t3 := Try.underlying3
  a3 := Try.isAgg3
  z3 := Try.sizeOf3
  v3 := Try.zeroValue3
  t4 := Try.underlying4
  a4 := Try.isAgg4
  z4 := Try.sizeOf4
  v4 := Try.zeroValue4
  t9 := Try.underlying9
  a9 := Try.isAgg9
  z9 := Try.sizeOf9
  v9 := Try.zeroValue9
  t37 := Try.underlying81
  a37 := Try.isAgg81
  z37 := Try.sizeOf81
  v37 := Try.zeroValue81
  t127 := Try.underlying82
  a127 := Try.isAgg82
  z127 := Try.sizeOf82
  v127 := Try.zeroValue82
  t5 := Try.underlying5
  a5 := Try.isAgg5
  z5 := Try.sizeOf5
  v5 := Try.zeroValue5
  i0 := by kernel_rfl
  i3 := by kernel_rfl
  i4 := by kernel_rfl
  i5 := by kernel_rfl
  i9 := by kernel_rfl
  i37 := by kernel_rfl
  i127 := by kernel_rfl }
open Go.RowKit in
/-- internal/stringslite.Clone (what strings.Clone calls): "Clone returns a fresh copy of s.": THE SAME BYTES. Of what was there nothing has turned (a new row is laid, and frozen, where s is not empty). (LAID: no walk: one application.) -/
theorem Try.stringslite_Clone (s : ByteArray) (w : World) (hlim : s.size ≤ 281474976710656) :
    Calls Try.prog 30 #[.string s] w fun e w' => e = .returned (.string s) ∧ Below w.heap.size w w' := Any.stringslite_Clone Try.laysM316 s w hlim
end Go.Proofs
namespace Go.Proofs.Ytcflglloopgieaa.FM
open Ieee

/-- Of the bits of a float: the size and the sign. -/
def sz (b : Nat) : Nat := b % 2 ^ 63
def ng (b : Nat) : Bool := b / 2 ^ 63 % 2 == 1
def INF : Nat := 0x7FF * 2 ^ 52
def isN (b : Nat) : Bool := decide (INF < sz b)
def pl (b : Nat) : Int := if ng b then -(sz b : Int) else (sz b : Int)

end Go.Proofs.Ytcflglloopgieaa.FM

namespace Go.Proofs.Ytcflglloopgieaa
open Go Go.Proofs Go.Maps Go.RowKit FM
set_option linter.unusedSimpArgs false
set_option linter.unusedVariables false
set_option maxHeartbeats 1000000
theorem hide {p : Prop} (h : p) : Hid p := h
theorem unhide {p : Prop} (h : Hid p) : p := h
theorem bits_run (b : Nat) (w : World) : (callFunc 28 #[.float .f64 b]).run Try.prog w = .ok (.value (.int .u64 (b : Int))) w := by
  rw [run_callFunc_extern Try.func28 (by kernel_rfl) (by kernel_rfl) (by kernel_rfl) (e := Extern.MathFloatBits.float64bits) (by kernel_rfl)]; rfl
def sameV (x y : Nat) : Bool := (isN x && isN y) || decide (x = y)
/-- A value of the program, field by field. -/
structure VV where
  k : Int
  b : Bool
  x : Nat
  s : ByteArray
  i : Int
def VV.agg (v : VV) : Value := .agg #[.int .i64 v.k, .bool v.b, .float .f64 v.x, .string v.s, .int .i64 v.i]
/-- A descriptor of the program, field by field. -/
structure DD where
  v : VV
  g : VV
  s : VV
  w : Int
  e : Int
  c : Int
def DD.agg (d : DD) : Value := .agg #[.int .i64 d.v.k, .bool d.v.b, .float .f64 d.v.x, .string d.v.s, .int .i64 d.v.i, .int .i64 d.g.k, .bool d.g.b, .float .f64 d.g.x, .string d.g.s, .int .i64 d.g.i, .int .i64 d.s.k, .bool d.s.b, .float .f64 d.s.x, .string d.s.s, .int .i64 d.s.i, .int .i64 d.w, .int .i64 d.e, .int .i64 d.c]
def zeroV : VV := ⟨0, false, 0, ⟨#[]⟩, 0⟩
def zeroD : DD := ⟨zeroV, zeroV, zeroV, 0, 0, 0⟩
theorem run_store_float (P : Program) (w : World) (a : Addr) (m : Mode) (k : FloatKind) (x : Nat) : (store a (.float k x) m).run P w = stored P w a (.float k x) m := run_store P w a _ m rfl
theorem toList_inj {s t : ByteArray} (h : s.toList = t.toList) : s = t := by
  rw [Lib.toList_data, Lib.toList_data] at h
  cases s; cases t
  simp only [ByteArray.mk.injEq]
  exact Array.toList_inj.1 h
theorem run_equalIn_float {P : Program} (d : Nat) (t : TypeId) (a b : Nat) (w : World) (h : P.underlying t = some (.float .f64)) : (Op.equalIn (d + 1) t (.float .f64 a) (.float .f64 b)).run P w = .ok (FloatKind.f64.format.order a b == some .eq) w := by
  simp [Op.equalIn, run_underlying h]
  rfl
/-- The floats of a descriptor are floats. -/
def FD (d : DD) : Prop := d.v.x < 2 ^ 64 ∧ d.g.x < 2 ^ 64 ∧ d.s.x < 2 ^ 64
def eqB (a b : VV) : Bool := (decide (a.x = b.x) || isN a.x && isN b.x) && a.k == b.k && a.b == b.b && decide (a.s.toList = b.s.toList) && a.i == b.i
def DD.cs (d : DD) : List Value := [.int .i64 d.v.k, .bool d.v.b, .float .f64 d.v.x, .string d.v.s, .int .i64 d.v.i, .int .i64 d.g.k, .bool d.g.b, .float .f64 d.g.x, .string d.g.s, .int .i64 d.g.i, .int .i64 d.s.k, .bool d.s.b, .float .f64 d.s.x, .string d.s.s, .int .i64 d.s.i, .int .i64 d.w, .int .i64 d.e, .int .i64 d.c]
def VV.cs (d : VV) : List Value := [.int .i64 d.k, .bool d.b, .float .f64 d.x, .string d.s, .int .i64 d.i]
theorem size_setCells {b : Nat} : ∀ (vs : List Value) (o : Nat) (W : World), (W.setCells b o vs).heap.size = W.heap.size
  | [], _, _ => rfl
  | v :: r, o, W => by
    rw [World.setCells, size_setCells r (o + 1)]
    simp
theorem heap_setCells (b : Nat) : ∀ (vs : List Value) (o : Nat) (X : World) (g : Nat), g ≠ b → (X.setCells b o vs).heap[g]? = X.heap[g]?
  | [], _, _, _, _ => rfl
  | v :: vs, o, X, g, h => by
    rw [World.setCells, heap_setCells b vs _ _ g h]
    simp [World.setCell, Array.getElem?_modify, Ne.symm h]
/-- Block B holds these cells, and may be written. -/
def Holds (W : World) (B : Nat) (cs : List Value) : Prop := (∀ j, W.frozen? ⟨B, j, none⟩ = false) ∧ W.rangeAt B 0 cs
theorem Holds.block {W W1 : World} {B : Nat} {cs : List Value} (h : Holds W B cs) (he : W1.heap[B]? = W.heap[B]?) : Holds W1 B cs := by
  have hc : ∀ j, W1.cell? ⟨B, j, none⟩ = W.cell? ⟨B, j, none⟩ := fun j => World.cell?_of_block he
  have hf : ∀ j, W1.frozen? ⟨B, j, none⟩ = W.frozen? ⟨B, j, none⟩ := fun j => World.frozen?_of_block he
  unfold Holds World.rangeAt at *
  simp only [hc, hf]
  exact h
theorem Holds.new (w : World) (cs : List Value) (t : TypeId) : Holds (w.alloc (Obj.cells cs.toArray t)) w.heap.size cs := by
  refine ⟨fun j => ?_, fun j v hv => ?_⟩
  · simp [go_sem]
  · simp [go_sem]
    exact hv
theorem Holds.cell {W : World} {B : Nat} {cs : List Value} (h : Holds W B cs) (p : Nat) {v : Value} (hp : cs[p]? = some v) : W.cell? ⟨B, p, none⟩ = some v := by
  have := h.2 p v hp
  simpa using this
theorem Holds.mid {W : World} {B : Nat} {cs : List Value} (h : Holds W B cs) (p n : Nat) : W.rangeAt B p ((cs.drop p).take n) := by
  intro j v hv
  rw [List.getElem?_take] at hv
  split at hv
  · rw [List.getElem?_drop] at hv
    exact h.cell (p + j) hv
  · cases hv
theorem Holds.there {W : World} {B : Nat} {cs : List Value} (h : Holds W B cs) (p n : Nat) (hp : p + n ≤ cs.length) : W.there B p n := by
  intro j hj
  refine ⟨?_, h.1 _⟩
  rw [h.cell (p + j) (List.getElem?_eq_getElem (by omega))]
  rfl
theorem Holds.lt {W : World} {B : Nat} {cs : List Value} (h : Holds W B cs) (hc : 0 < cs.length) : B < W.heap.size := by
  have h0 := h.cell 0 (List.getElem?_eq_getElem hc)
  rcases Nat.lt_or_ge B W.heap.size with h1 | h1
  · exact h1
  · exfalso
    have e : W.heap[B]? = none := Array.getElem?_eq_none h1
    simp [World.cell?, e] at h0
/-- Cells from p on are others. -/
def cput (cs : List Value) (p : Nat) (vs : List Value) : List Value := cs.take p ++ vs ++ cs.drop (p + vs.length)
theorem Holds.put {W : World} {B : Nat} {cs : List Value} (h : Holds W B cs) (p : Nat) (vs : List Value) (hp : p + vs.length ≤ cs.length) : Holds (W.setCells B p vs) B (cput cs p vs) := by
  refine ⟨fun j => by rw [World.frozen?_setCells]; exact h.1 j, fun j v hv => ?_⟩
  unfold cput at hv
  have hth := h.there p vs.length hp
  have e0 : (⟨B, 0 + j, none⟩ : Addr) = ⟨B, j, none⟩ := by simp
  rw [e0]
  by_cases h1 : j < p
  · rw [List.getElem?_append_left (by simp; omega), List.getElem?_append_left (by simp; omega), List.getElem?_take, if_pos h1] at hv
    rw [World.cell?_setCells_out B vs p W ⟨B, j, none⟩ (fun _ _ => Or.inl h1)]
    exact h.cell j hv
  · by_cases h2 : j < p + vs.length
    · rw [List.getElem?_append_left (by simp; omega), List.getElem?_append_right (by simp; omega)] at hv
      have h3 := World.rangeAt_setCells_same W B p vs hth (j - p) v (by simpa [Nat.min_eq_left (by omega : p ≤ cs.length)] using hv)
      rwa [show p + (j - p) = j by omega] at h3
    · rw [List.getElem?_append_right (by simp; omega), List.getElem?_drop] at hv
      rw [World.cell?_setCells_out B vs p W ⟨B, j, none⟩ (fun _ _ => Or.inr (by show p + vs.length ≤ j; omega))]
      refine h.cell j ?_
      rw [← hv]
      congr 1
      simp
      omega
section
variable {o : Oper} {a : Act} {W : World} {x : Operand} {B p : Nat} {cs : List Value}
theorem ex_load1 {v : Value} (t : TypeId) (hna : ∀ w, (isAgg t).run Try.prog w = .ok false w) (ho : o.op = .load t x) (hx : a.eval x = .pointer (some ⟨B, p, none⟩)) (hc : Holds W B cs) (hv : cs[p]? = some v) : (execOp a.eval o).run Try.prog W = .ok (.value v) W := by
  have h0 := hc.cell p hv
  unfold execOp
  simp only [ho, hx]
  simp [go_sem, h0, hna]
theorem ex_loadN {vs : List Value} (t : TypeId) (n : Nat) (hu : ∃ d, Try.prog.underlying t = some d ∧ d.isRow = true) (hi : (Try.prog.info? t).map (·.size) = some n) (ho : o.op = .load t x) (hx : a.eval x = .pointer (some ⟨B, p, none⟩)) (hc : Holds W B cs) (hv : (cs.drop p).take n = vs) (hn : vs.length = n) : (execOp a.eval o).run Try.prog W = .ok (.value (.agg vs.toArray)) W := by
  obtain ⟨d, hu, hd⟩ := hu
  have h0 := hc.mid p n
  rw [hv] at h0
  unfold execOp
  simp only [ho, hx, Instr.loadAt, Instr.sureAddr, Sem.run_bind, Sem.run_pure, Result.andThen_ok, run_loadVar_mid W B p t vs d h0 hu hd (by rw [hi, hn])]
end
theorem ex_loadC {o : Oper} {a : Act} {W : World} {x : Operand} {B p : Nat} {v : Value} (t : TypeId) (hna : ∀ w, (isAgg t).run Try.prog w = .ok false w) (ho : o.op = .load t x) (hx : a.eval x = .pointer (some ⟨B, p, none⟩)) (h0 : W.cell? ⟨B, p, none⟩ = some v) : (execOp a.eval o).run Try.prog W = .ok (.value v) W := by
  unfold execOp
  simp only [ho, hx]
  simp [go_sem, h0, hna]
theorem ex_loadR {o : Oper} {a : Act} {W : World} {x : Operand} {B p : Nat} {vs : List Value} (t : TypeId) (n : Nat) (hu : ∃ d, Try.prog.underlying t = some d ∧ d.isRow = true) (hi : (Try.prog.info? t).map (·.size) = some n) (ho : o.op = .load t x) (hx : a.eval x = .pointer (some ⟨B, p, none⟩)) (h0 : W.rangeAt B p vs) (hn : vs.length = n) : (execOp a.eval o).run Try.prog W = .ok (.value (.agg vs.toArray)) W := by
  obtain ⟨d, hu, hd⟩ := hu
  unfold execOp
  simp only [ho, hx, Instr.loadAt, Instr.sureAddr, Sem.run_bind, Sem.run_pure, Result.andThen_ok, run_loadVar_mid W B p t vs d h0 hu hd (by rw [hi, hn])]
theorem range_left {w : World} {b p : Nat} {a c : List Value} (h : w.rangeAt b p (a ++ c)) : w.rangeAt b p a := fun j v hv => h j v (by rw [List.getElem?_append_left (List.getElem?_eq_some_iff.1 hv).1]; exact hv)
theorem range_right {w : World} {b p : Nat} {a c : List Value} (h : w.rangeAt b p (a ++ c)) : w.rangeAt b (p + a.length) c := fun j v hv => by
  have := h (a.length + j) v (by rw [List.getElem?_append_right (by omega)]; simpa using hv)
  rwa [← Nat.add_assoc] at this
/-- Of what was there in w, X has other blocks at most at E. -/
structure Fr (w X : World) (E : List Nat) : Prop where
  os : X.os = w.os
  tape : X.tape = w.tape
  output : X.output = w.output
  size : w.heap.size ≤ X.heap.size
  block : ∀ b, b < w.heap.size → b ∉ E → X.heap[b]? = w.heap[b]?
theorem Fr.refl (w : World) (E : List Nat) : Fr w w E := ⟨rfl, rfl, rfl, Nat.le_refl _, fun _ _ _ => rfl⟩
theorem Fr.trans {w X Y : World} {E E' : List Nat} (h : Fr w X E) (k : Fr X Y E') (hE : ∀ b ∈ E', b ∈ E ∨ w.heap.size ≤ b) : Fr w Y E :=
  ⟨k.os.trans h.os, k.tape.trans h.tape, k.output.trans h.output, Nat.le_trans h.size k.size, fun b hb he =>
    (k.block b (Nat.lt_of_lt_of_le hb h.size) (fun he' => (hE b he').elim he (fun h2 => by omega))).trans (h.block b hb he)⟩
theorem Fr.of_below {w X : World} (h : Below w.heap.size w X) (E : List Nat) : Fr w X E := ⟨h.os, h.tape, h.output, h.size, fun b hb _ => h.block b hb⟩
theorem Fr.below {w X : World} (h : Fr w X []) : Below w.heap.size w X := ⟨h.os, h.tape, h.output, h.size, fun b hb => h.block b hb (by simp)⟩
theorem Fr.on {w X Y : World} {E : List Nat} (h : Fr w X E) (k : Below X.heap.size X Y) : Fr w Y E := h.trans (Fr.of_below k []) (by simp)
theorem Fr.mono {w X : World} {E E' : List Nat} (h : Fr w X E) (hE : ∀ b ∈ E, b ∈ E' ∨ w.heap.size ≤ b) : Fr w X E' := (Fr.refl w E').trans h hE
theorem Fr.drew {w X : World} {E : List Nat} (h : Fr w X E) : Fr w X.drew E := ⟨h.os, h.tape, h.output, h.size, h.block⟩
theorem Fr.alloc {w X : World} {E : List Nat} (h : Fr w X E) (o : Obj) : Fr w (X.alloc o) E := h.on ((Below.refl _ _).alloc (Nat.le_refl _) _)
theorem os_setCells (b : Nat) : ∀ (vs : List Value) (o : Nat) (X : World), (X.setCells b o vs).os = X.os ∧ (X.setCells b o vs).tape = X.tape ∧ (X.setCells b o vs).output = X.output
  | [], _, _ => ⟨rfl, rfl, rfl⟩
  | v :: vs, o, X => by
    obtain ⟨h1, h2, h3⟩ := os_setCells b vs (o + 1) (X.setCell ⟨b, o, none⟩ v)
    rw [World.setCells]
    exact ⟨h1, h2, h3⟩
theorem Fr.setCells (X : World) (b p : Nat) (vs : List Value) : Fr X (X.setCells b p vs) [b] :=
  ⟨(os_setCells b vs p X).1, (os_setCells b vs p X).2.1, (os_setCells b vs p X).2.2, by rw [size_setCells]; exact Nat.le_refl _, fun g _ hg => heap_setCells b vs p X g (by simpa using hg)⟩
theorem Fr.grown {X Y : World} {row : Option Nat} (h : X.grownBy Y row) : Fr X Y row.toList :=
  ⟨h.os, h.tape, h.output, h.size, fun b hb hE => h.block b hb (fun e => hE (by rw [← e]; simp))⟩
/-- Our blocks hold what they held; of what was there ahead only blocks of E may have changed. -/
structure Hq (w X : World) (E : List Nat) (L : List (Nat × List Value)) : Prop where
  fr : Fr w X E
  all : ∀ q ∈ L, Holds X q.1 q.2 ∧ 0 < q.2.length
  nd : (L.map (·.1)).Nodup
theorem Hq.nil (w : World) (E : List Nat) : Hq w w E [] := ⟨Fr.refl _ _, (fun q hq => by cases hq), by simp⟩
theorem Hq.lt {w X : World} {E : List Nat} {L : List (Nat × List Value)} (h : Hq w X E L) : ∀ q ∈ L, q.1 < X.heap.size := fun q hq => (h.all q hq).1.lt (h.all q hq).2
theorem Hq.get {w X : World} {E : List Nat} {L : List (Nat × List Value)} (h : Hq w X E L) (i : Nat) {b : Nat} {cs : List Value} (hi : L[i]? = some (b, cs)) : Holds X b cs := (h.all _ (List.mem_of_getElem? hi)).1
theorem Hq.drew {w X : World} {E : List Nat} {L : List (Nat × List Value)} (h : Hq w X E L) : Hq w X.drew E L := ⟨h.fr.drew, fun q hq => ⟨(h.all q hq).1.block rfl, (h.all q hq).2⟩, h.nd⟩
theorem Hq.on {w X Y : World} {E : List Nat} {L : List (Nat × List Value)} (h : Hq w X E L) (k : Below X.heap.size X Y) : Hq w Y E L :=
  ⟨h.fr.on k, fun q hq => ⟨(h.all q hq).1.block (k.block _ (h.lt q hq)), (h.all q hq).2⟩, h.nd⟩
theorem Hq.step {w X Y : World} {E E' : List Nat} {L : List (Nat × List Value)} (h : Hq w X E L) (k : Fr X Y E') (hE : ∀ b ∈ E', b ∈ E ∨ w.heap.size ≤ b) (hL : ∀ q ∈ L, q.1 ∉ E') : Hq w Y E L :=
  ⟨h.fr.trans k hE, fun q hq => ⟨(h.all q hq).1.block (k.block _ (h.lt q hq) (hL q hq)), (h.all q hq).2⟩, h.nd⟩
theorem Hq.add {w X : World} {E : List Nat} {L : List (Nat × List Value)} (h : Hq w X E L) {b : Nat} {cs : List Value} (hb : Holds X b cs) (hc : 0 < cs.length) (hn : ∀ q ∈ L, q.1 ≠ b) : Hq w X E (L ++ [(b, cs)]) := by
  refine ⟨h.fr, fun q hq => ?_, ?_⟩
  · rcases List.mem_append.1 hq with hq | hq
    · exact h.all q hq
    · obtain rfl : q = (b, cs) := by simpa using hq
      exact ⟨hb, hc⟩
  · rw [List.map_append, List.nodup_append]
    refine ⟨h.nd, by simp, fun x hx y hy => ?_⟩
    obtain ⟨q, hq, rfl⟩ := List.mem_map.1 hx
    obtain rfl : y = b := by simpa using hy
    exact hn q hq
theorem Hq.new {w X : World} {E : List Nat} {L : List (Nat × List Value)} (h : Hq w X E L) (cs : List Value) (t : TypeId) (hc : 0 < cs.length) : Hq w (X.alloc (Obj.cells cs.toArray t)) E (L ++ [(X.heap.size, cs)]) :=
  (h.on ((Below.refl _ _).alloc (Nat.le_refl _) _)).add (Holds.new X cs t) hc (fun q hq => Nat.ne_of_lt (h.lt q hq))
theorem Hq.put {w X : World} {E : List Nat} {L : List (Nat × List Value)} (h : Hq w X E L) (i : Nat) {b : Nat} {cs : List Value} (hi : L[i]? = some (b, cs)) (p : Nat) (vs : List Value) (hp : p + vs.length ≤ cs.length) (hE : b ∈ E ∨ w.heap.size ≤ b) : Hq w (X.setCells b p vs) E (L.set i (b, cput cs p vs)) := by
  have hil := (List.getElem?_eq_some_iff.1 hi).1
  have hie := (List.getElem?_eq_some_iff.1 hi).2
  have hH := h.get i hi
  have hlen : (cput cs p vs).length = cs.length := by simp [cput]; omega
  refine ⟨h.fr.trans (Fr.setCells X b p vs) (by simpa using hE), fun q hq => ?_, ?_⟩
  · rcases List.getElem?_of_mem hq with ⟨j, hj⟩
    rw [List.getElem?_set] at hj
    split at hj
    · rename_i e
      subst e
      obtain rfl := Option.some.inj hj
      have h1 := (h.all _ (List.mem_of_getElem? hi)).2
      exact ⟨hH.put p vs hp, by simpa [hlen] using h1⟩
    · rename_i e
      have hm := List.mem_of_getElem? hj
      refine ⟨(h.all q hm).1.block (heap_setCells b vs p X q.1 ?_), (h.all q hm).2⟩
      intro eb
      have hjl := (List.getElem?_eq_some_iff.1 hj).1
      have h1 : (L.map (·.1))[i]? = some b := by simp [hi]
      have h2 : (L.map (·.1))[j]? = some b := by simp [hj, eb]
      have := (List.getElem?_inj (by simpa using hil) h.nd).1 (h1.trans h2.symm)
      exact e this
  · have e : (L.set i (b, cput cs p vs)).map (·.1) = L.map (·.1) := by
      rw [List.map_set]
      apply List.ext_getElem?
      intro j
      rw [List.getElem?_set]
      split
      · rename_i e
        subst e
        simp [hil, hie]
      · rfl
    rw [e]
    exact h.nd
section
variable {md : Region.Mode} {ops : Array Oper} {rest : List Oper} {Q : Exit → Act → World → Prop} {S : World → Prop} {w w0 : World} {fuel : Nat} {listed : Array Bool} {a : Act} {o : Oper}
theorem gsem (i : Nat) (dst : Option Tmp) (v : Value) (hi : ops[i]? = some o) (hs : Region.noSelect ops = true) (hf : Region.free md ops listed i = true) (hr : (Region.ready md ops listed).contains i = true)
    (hQ : ∀ c a w, Q (.panic c) (a.put dst v) w → Q (.panic c) a w) (hd : o.dst = dst) (hw : Region.wanted o (yielded ops a.tmps) = true) (hy : ∀ X, S X → (execOp a.eval o).run Try.prog X = .ok (.value v) X)
    (hS : S w) (h : wpAnyH Try.prog md ops Q S fuel (listed.setIfInBounds i true) (a.put dst v) w) : wpAnyH Try.prog md ops Q S (fuel + 1) listed a w := by
  subst hd
  exact wpAnyH_take hi hs hf hr hQ (Or.inl ⟨hw, hy⟩) hS h
theorem rd {v : Value} (hw : Region.wanted o (yielded ops a.tmps) = true) (hy : (execOp a.eval o).run Try.prog w = .ok (.value v) w) (h : wpList Try.prog ops Q rest (a.put o.dst v) w) : wpList Try.prog ops Q (o :: rest) a w := by
  refine BigFrame.wpList_want hw fun K hK => ?_
  have hP := hK _ _ h
  unfold Oper.wp
  rw [hy]
  exact hP
theorem run_storeVar_any (w : World) (b p : Nat) (ty : TypeId) (v : Value) (vs : List Value) (hv : v.cells.toList = vs) (ht : w.there b p vs.length) (hi : (Try.prog.info? ty).map (·.size) = some vs.length) (h1 : ∀ u ∈ vs, u.oneCell' = true) :
    (storeVar ty ⟨b, p, none⟩ v).run Try.prog w = .ok () (w.setCells b p vs) := by
  have := run_storeCells_cells (P := Try.prog) b p vs 0 w (fun j hj => by simpa using (ht j hj).1) (fun j hj => by simpa using (ht j hj).2) h1
  cases hq : Try.prog.info? ty with
  | none => simp [hq] at hi
  | some i =>
    have hs : v.cells.size = i.size := by
      have e : v.cells.size = vs.length := by rw [← hv]; simp
      simp [hq] at hi; omega
    simp only [Nat.add_zero] at this
    simp [storeVar, sizeOf, typeInfo, hq, hs, hv, this]
theorem st {E : List Nat} {L : List (Nat × List Value)} {b p : Nat} {cs vs : List Value} {v : Value} {x y : Operand} (i : Nat) (t : TypeId) (hw : Region.wanted o (yielded ops a.tmps) = true) (ho : o.op = .store t x y) (hx : a.eval x = .pointer (some ⟨b, p, none⟩)) (hy : a.eval y = v)
    (hv : v.cells.toList = vs) (h1 : ∀ u ∈ vs, u.oneCell' = true) (hi : (Try.prog.info? t).map (·.size) = some vs.length) (hL : Hq w0 w E L) (hg : L[i]? = some (b, cs)) (hp : p + vs.length ≤ cs.length) (hE : b ∈ E ∨ w0.heap.size ≤ b)
    (h : ∀ X, Hq w0 X E (L.set i (b, cput cs p vs)) → Fr w X [b] → X.heap.size = w.heap.size → wpList Try.prog ops Q rest (a.put o.dst undef) X) : wpList Try.prog ops Q (o :: rest) a w := by
  refine BigFrame.wpList_want hw fun K hK => ?_
  have hP := hK _ _ (h _ (hL.put i hg p vs hp hE) (Fr.setCells w b p vs) (size_setCells _ _ _))
  unfold Oper.wp execOp
  simp only [ho, hx, hy, Instr.storeAt, Instr.sureAddr, Sem.run_bind, Sem.run_pure, Result.andThen_ok, run_storeVar_any w b p t v vs hv ((hL.get i hg).there p vs.length hp) hi h1]
  exact hP
theorem bx {E : List Nat} {L : List (Nat × List Value)} {v : Value} {x : Operand} (t : TypeId) (cs : List Value) (hw : Region.wanted o (yielded ops a.tmps) = true) (ho : o.op = .box t x) (hx : a.eval x = v) (hv : v.cells.toList = cs) (hc : 0 < cs.length) (hL : Hq w0 w E L)
    (h : ∀ X B, B = w.heap.size → Hq w0 X E (L ++ [(B, cs)]) → Below w.heap.size w X → wpList Try.prog ops Q rest (a.put o.dst (.pointer (some ⟨B, 0, none⟩))) X) : wpList Try.prog ops Q (o :: rest) a w := by
  refine BigFrame.wpList_want hw fun K hK => ?_
  have e : v.cells = cs.toArray := by rw [← hv]
  have hP := hK _ _ (h _ _ rfl (hL.new cs t hc) ((Below.refl _ _).alloc (Nat.le_refl _) _))
  have e2 : (Instr.box t v).run Try.prog w = .ok (.pointer (some ⟨w.heap.size, 0, none⟩)) (w.alloc (Obj.cells cs.toArray t)) := by rw [← e]; rfl
  unfold Oper.wp execOp
  simp only [ho, hx]
  simp [e2]
  exact hP
end
/-- append onto one's own row: the row's block is the old one, or a new one. -/
theorem append_fresh (w : World) (base : Nat) (t ty e : TypeId) (i : TypeInfo) (z : Value) (size bytes : Nat) (ht : Try.prog.underlying t = some (.slice e)) (hi : Try.prog.info? e = some i) (hz : i.zero = some z)
    (hsize : i.size = size) (hby : i.bytes = bytes) (hzs : z.cells.size = size) (hsz : 0 < size) (v : Value) (n : Nat) (xs : List Value) (hown : w.ownsRow base e size v n xs)
    (a : Addr) (m c : Nat) (news : List Value) (hl : news.length = m * size) (hnews : ∀ j u, news[j]? = some u → w.cell? (a.add j) = some u) (h1 : ∀ u ∈ news, u.oneCell' = true)
    (h63 : n + m ≤ maxLen) (hbytes : (n + m) * bytes ≤ 140737488355328) (hbase : base ≤ w.heap.size) :
    ∃ v' w', (Builtin.append_ #[t, t] ty #[v, .slice (some a) m c]).run Try.prog w = .ok v' w' ∧ w'.ownsRow base e size v' (n + m) (xs ++ news) ∧ w.grownBy w' v.ownBlock ∧ (v'.ownBlock = v.ownBlock ∨ v'.ownBlock = some w.heap.size) := by
  obtain ⟨v', w', hr, ho, hg, hiff⟩ := run_append_own w base t ty e i z size bytes ht hi hz hsize hby hzs hsz v n xs hown a m c news hl hnews h1 h63 hbytes hbase
  refine ⟨v', w', hr, ho, hg, ?_⟩
  have hm : n + m ≤ 9223372036854775807 := by simp only [maxLen] at h63; omega
  have inj : ∀ {v2 : Value} {w2 : World}, (Builtin.append_ #[t, t] ty #[v, .slice (some a) m c]).run Try.prog w = .ok v2 w2 → v' = v2 := fun h2 => by
    rw [hr] at h2
    injection h2
  subst hsize
  subst hby
  rcases hown.2 with ⟨rfl, rfl⟩ | ⟨g, cap, cur, rfl, hbg, hgg, hnc, hcm, hcs, htake⟩
  · by_cases h0 : m = 0
    · exact Or.inl (by rw [hiff.2 ⟨rfl, h0⟩])
    · right
      have hb := hbytes
      rw [Nat.zero_add] at hb
      rw [inj (run_append_nil w t ty e i z ht hi hz a m c news hl hnews (by omega) (by omega) (by omega))]
      rfl
  · by_cases hroom : n + m ≤ cap
    · left
      have hfit : n * i.size + news.length ≤ cur.size := by rw [hl, hcs, ← Nat.add_mul]; exact Nat.mul_le_mul_right _ hroom
      rw [inj (run_append_room w t ty e i ht hi g n cap cur hgg a m c news hl hnews h1 hroom hfit)]
      rfl
    · right
      rw [inj (run_append_grow w t ty e i z ht hi hz ⟨g, 0, none⟩ n cap xs hown.1 (hown.cells (g := g) rfl) a m c news hl hnews (by omega) (by omega) (growslice_fits (by omega) hbytes))]
      rfl
def Fresh (w : World) (v v' : Value) : Prop := v'.ownBlock = v.ownBlock ∨ v'.ownBlock = some w.heap.size
/-- Two rows whose blocks are not the same. -/
def Apart (v u : Value) : Prop := ∀ g, v.ownBlock = some g → u.ownBlock ≠ some g
theorem Apart.symm {v u : Value} (h : Apart v u) : Apart u v := fun g hu hv => h g hv hu
theorem Apart.fresh {w : World} {v v' u : Value} (h : Apart v u) (hf : Fresh w v v') (hu : ∀ g, u.ownBlock = some g → g < w.heap.size) : Apart v' u := by
  intro g hg he
  rcases hf with e | e
  · exact h g (e ▸ hg) he
  · rw [e] at hg
    have h1 := hu g he
    have h2 : w.heap.size = g := by simpa using hg
    omega
section
variable {md : Region.Mode} {ops : Array Oper} {rest : List Oper} {Q : Exit → Act → World → Prop} {S : World → Prop} {w w0 : World} {fuel : Nat} {listed : Array Bool} {a : Act} {o : Oper}
theorem own_form {w : World} {base e size n : Nat} {v : Value} {xs : List Value} (h : w.ownsRow base e size v n xs) : ∃ A c, v = .slice A n c := by
  rcases h.2 with ⟨rfl, rfl⟩ | ⟨g, cap, cur, rfl, -⟩
  · exact ⟨_, _, rfl⟩
  · exact ⟨_, _, rfl⟩
/-- append onto one's own row, of any type. -/
theorem append_any {t e : TypeId} {size bytes n m c B base : Nat} {z v : Value} {xs news : List Value} {s x : Operand} (hgd : o.guard = none) (ho : o.op = .call { callee := .builtin .append, args := #[s, x], argTypes := #[t, t] }) (hs : a.eval s = v) (hx : a.eval x = .slice (some ⟨B, 0, none⟩) m c)
    (ht : Try.prog.underlying t = some (.slice e)) (hi : (Try.prog.info? e).map (fun i => (i.zero, i.size, i.bytes)) = some (some z, size, bytes)) (hz : z.cells.size = size) (hsz : 0 < size) (hown : w.ownsRow base e size v n xs) (hB : Holds w B news) (hl : news.length = m * size) (h1 : ∀ u ∈ news, u.oneCell' = true)
    (hn : n + m ≤ 1000000) (hby : bytes ≤ 10000) (hbase : base ≤ w.heap.size)
    (h : ∀ A c w', w'.ownsRow base e size (.slice A (n + m) c) (n + m) (xs ++ news) → w.grownBy w' v.ownBlock → Fresh w v (.slice A (n + m) c) → wpList Try.prog ops Q rest (a.put o.dst (.slice A (n + m) c)) w') : wpList Try.prog ops Q (o :: rest) a w := by
  obtain ⟨i0, hi, hz0, hz1, hz2⟩ := info_parts hi
  refine wpList_plain hgd fun K hK => ?_
  obtain ⟨v', w', hrun, h2, h3, h4⟩ := append_fresh w base t o.type e i0 _ size bytes ht hi hz0 hz1 hz2 hz hsz v n xs hown ⟨B, 0, none⟩ m c news hl (fun j u hj => by
    rw [Addr.add_mid]
    exact hB.2 j u hj) h1 (by unfold maxLen; omega) (Nat.le_trans (Nat.mul_le_mul hn hby) (by decide)) hbase
  obtain ⟨A', c', rfl⟩ := own_form h2
  have hP := hK _ _ (h A' c' w' h2 h3 h4)
  unfold Oper.wp
  simp [execOp, ho, resolve, invoke, builtin, hs, hx, hrun, Result.andThen]
  exact hP
theorem fold_set (off : Nat) : ∀ (vs : List Value) (j : Nat) (z : Array Value), off + j + vs.length ≤ z.size →
    ((vs.zipIdx j).foldl (fun cs (c, j) => cs.setIfInBounds (off + j) c) z).toList = z.toList.take (off + j) ++ vs ++ z.toList.drop (off + j + vs.length)
  | [], j, z, h => by simp
  | v :: vs, j, z, h => by
    simp only [List.length_cons] at h
    rw [List.zipIdx_cons, List.foldl_cons, fold_set off vs (j + 1) (z.setIfInBounds (off + j) v) (by simp; omega)]
    have hj : off + j < z.toList.length := by simp; omega
    have e1 : (z.setIfInBounds (off + j) v).toList = z.toList.set (off + j) v := by simp
    rw [e1, show off + (j + 1) = off + j + 1 by omega]
    rw [List.take_set, List.drop_set_of_lt (by omega), List.take_succ_eq_append_getElem hj]
    simp only [List.length_cons]
    rw [show off + j + 1 + vs.length = off + j + (vs.length + 1) by omega]
    rw [List.set_append_right _ _ (by simp; omega)]
    have e2 : off + j - (z.toList.take (off + j)).length = 0 := by simp; omega
    rw [e2]
    simp
theorem fill_one (size : Nat) (z : Array Value) (v : Value) (hz : z.size = size) (hv : v.cells.size = size) : Instr.fill (fun i => some (i * size, size)) z [(0, v)] = some v.cells := by
  have e := fold_set 0 v.cells.toList 0 z (by simp; omega)
  unfold Instr.fill
  simp only [Nat.zero_mul]
  rw [if_neg (by simp; omega)]
  unfold Instr.fill
  congr 1
  apply Array.toList_inj.1
  have e3 : v.cells.zipIdx.foldl (fun cs (c, j) => cs.setIfInBounds (0 + j) c) z = (v.cells.toList.zipIdx 0).foldl (fun cs (c, j) => cs.setIfInBounds (0 + j) c) z := by
    rw [← Array.foldl_toList, Array.toList_zipIdx]
  rw [e3, e]
  simp
  omega
/-- A slice of one. -/
theorem build_any {t e : TypeId} {size bytes : Nat} {z v : Value} {cs : List Value} {x : Operand} {E : List Nat} {L : List (Nat × List Value)} (hw : Region.wanted o (yielded ops a.tmps) = true) (ho : o.op = .buildSlice t 1 #[(0, x)]) (hx : a.eval x = v)
    (ht : Try.prog.underlying t = some (.slice e)) (hi : (Try.prog.info? e).map (fun i => (i.zero, i.size, i.bytes)) = some (some z, size, bytes)) (hs1 : size ≤ 100) (hv : v.cells.toList = cs) (hc : cs.length = size) (h0 : 0 < size) (hL : Hq w0 w E L)
    (h : ∀ X B, B = w.heap.size → Hq w0 X E (L ++ [(B, cs)]) → Below w.heap.size w X → wpList Try.prog ops Q rest (a.put o.dst (.slice (some ⟨B, 0, none⟩) 1 1)) X) : wpList Try.prog ops Q (o :: rest) a w := by
  refine BigFrame.wpList_want hw fun K hK => ?_
  obtain ⟨i0, hi, hz0, hz1, hz2⟩ := info_parts hi
  have ev : v.cells = cs.toArray := by rw [← hv]
  have es : v.cells.size = size := by rw [ev]; simpa using hc
  refine wp_buildSlice t e 1 _ ho cs.toArray i0 _ ht hi hz0 (by rw [hz1]; omega) (by rw [hz1]; omega) ?_ (hK _ _ (h _ _ rfl (hL.new cs e (by omega)) ((Below.refl _ _).alloc (Nat.le_refl _) _)))
  rw [hz1, ← ev]
  simp only [List.map_toArray, List.map_cons, List.map_nil, hx]
  exact fill_one size _ v (by simp) es
theorem gval (i : Nat) (dst : Option Tmp) {V : Value} {X : World} {rs : List Nat} (hi : ops[i]? = some o) (hd : o.dst = dst) (hw : Region.wanted o (yielded ops a.tmps) = true) (he : (execOp a.eval o).run Try.prog w = .ok (.value V) X) (hSX : S X)
    (h : wpAnyH Try.prog md ops Q S fuel (listed.setIfInBounds i true) (a.put dst V) X) (hs : AllReadyH Try.prog md ops Q S fuel listed a w rs) : AllReadyH Try.prog md ops Q S fuel listed a w (i :: rs) := by
  subst hd
  refine AllReadyH.cons hi (fun K hK => ?_) hs
  rw [if_pos hw]
  unfold Oper.wp
  rw [he]
  exact hK.out _ _ hSX (fun _ => h)
theorem gskp (i : Nat) (dst : Option Tmp) {X : World} {rs : List Nat} (hi : ops[i]? = some o) (hd : o.dst = dst) (hw : Region.wanted o (yielded ops a.tmps) = true) (he : (execOp a.eval o).run Try.prog w = .ok .skip X) (hSX : S X)
    (h : wpAnyH Try.prog md ops Q S fuel (listed.setIfInBounds i true) (a.put dst undef) X) (hs : AllReadyH Try.prog md ops Q S fuel listed a w rs) : AllReadyH Try.prog md ops Q S fuel listed a w (i :: rs) := by
  subst hd
  refine AllReadyH.cons hi (fun K hK => ?_) hs
  rw [if_pos hw]
  unfold Oper.wp
  rw [he]
  exact hK.out _ _ hSX (fun _ => h)
theorem ex_box {v : Value} {x : Operand} (t : TypeId) (cs : List Value) (ho : o.op = .box t x) (hx : a.eval x = v) (hv : v.cells.toList = cs) : (execOp a.eval o).run Try.prog w = .ok (.value (.pointer (some ⟨w.heap.size, 0, none⟩))) (w.alloc (Obj.cells cs.toArray t)) := by
  have e : v.cells = cs.toArray := by rw [← hv]
  have e2 : (Instr.box t v).run Try.prog w = .ok (.pointer (some ⟨w.heap.size, 0, none⟩)) (w.alloc (Obj.cells cs.toArray t)) := by rw [← e]; rfl
  unfold execOp
  simp only [ho, hx]
  simp [e2]
theorem ex_store {t : TypeId} {b p : Nat} {cs vs : List Value} {v : Value} {x y : Operand} (ho : o.op = .store t x y) (hx : a.eval x = .pointer (some ⟨b, p, none⟩)) (hy : a.eval y = v) (hv : v.cells.toList = vs) (h1 : ∀ u ∈ vs, u.oneCell' = true) (hi : (Try.prog.info? t).map (·.size) = some vs.length) (hH : Holds w b cs) (hp : p + vs.length ≤ cs.length) :
    (execOp a.eval o).run Try.prog w = .ok .skip (w.setCells b p vs) := by
  unfold execOp
  simp only [ho, hx, hy, Instr.storeAt, Instr.sureAddr, Sem.run_bind, Sem.run_pure, Result.andThen_ok, run_storeVar_any w b p t v vs hv (hH.there p vs.length hp) hi h1]
theorem ex_buildS {t e : TypeId} {size bytes : Nat} {z v : Value} {cs : List Value} {x : Operand} (ho : o.op = .buildSlice t 1 #[(0, x)]) (hx : a.eval x = v)
    (ht : Try.prog.underlying t = some (.slice e)) (hi : (Try.prog.info? e).map (fun i => (i.zero, i.size, i.bytes)) = some (some z, size, bytes)) (hs1 : size ≤ 100) (hv : v.cells.toList = cs) (hc : cs.length = size) (h0 : 0 < size) :
    (execOp a.eval o).run Try.prog w = .ok (.value (.slice (some ⟨w.heap.size, 0, none⟩) 1 1)) (w.alloc (Obj.cells cs.toArray e)) := by
  obtain ⟨i0, hi, hz0, hz1, hz2⟩ := info_parts hi
  have ev : v.cells = cs.toArray := by rw [← hv]
  have es : v.cells.size = size := by rw [ev]; simpa using hc
  have hr := run_buildSlice w t e 1 #[(0, v)] cs.toArray i0 _ ht hi hz0 (by rw [hz1]; omega) (by rw [hz1]; omega) (by
    rw [hz1, ← ev]
    exact fill_one size _ v (by simp) es)
  unfold execOp
  simp only [ho, List.map_toArray, List.map_cons, List.map_nil, hx]
  simp [hr]
end
theorem own_len {w : World} {base e s n : Nat} {v : Value} {xs : List Value} (h : w.ownsRow base e s v n xs) : xs.length = n * s := h.1
theorem stx {ops : Array Oper} {rest : List Oper} {Q : Exit → Act → World → Prop} {w : World} {a : Act} {o : Oper} {t : TypeId} {b p : Nat} {cs vs : List Value} {v : Value} {x y : Operand} (hw : Region.wanted o (yielded ops a.tmps) = true) (ho : o.op = .store t x y) (hx : a.eval x = .pointer (some ⟨b, p, none⟩)) (hy : a.eval y = v) (hv : v.cells.toList = vs) (h1 : ∀ u ∈ vs, u.oneCell' = true) (hi : (Try.prog.info? t).map (·.size) = some vs.length) (hH : Holds w b cs) (hp : p + vs.length ≤ cs.length)
    (h : wpList Try.prog ops Q rest (a.put o.dst undef) (w.setCells b p vs)) : wpList Try.prog ops Q (o :: rest) a w := by
  refine BigFrame.wpList_want hw fun K hK => ?_
  have hP := hK _ _ h
  unfold Oper.wp
  rw [ex_store ho hx hy hv h1 hi hH hp]
  exact hP
theorem gcallR {md : Region.Mode} {ops : Array Oper} {Q : Exit → Act → World → Prop} {S : World → Prop} {w : World} {fuel : Nat} {listed : Array Bool} {a : Act} {o : Oper} (i : Nat) (dst : Option Tmp) {f : FuncId} {args : Array Value} {R : Ending → World → Prop} {rs : List Nat} (hi : ops[i]? = some o) (hd : o.dst = dst) (hw : Region.wanted o (yielded ops a.tmps) = true)
    (he : (execOp a.eval o).run Try.prog w = .ok (.enter f args) w) (hC : Calls Try.prog f args w R)
    (h : ∀ e X, R e X → ∃ V, e = .returned V ∧ S X ∧ wpAnyH Try.prog md ops Q S fuel (listed.setIfInBounds i true) (a.put dst V) X) (hs : AllReadyH Try.prog md ops Q S fuel listed a w rs) : AllReadyH Try.prog md ops Q S fuel listed a w (i :: rs) := by
  subst hd
  refine AllReadyH.cons hi (fun K hK => ?_) hs
  rw [if_pos hw]
  unfold Oper.wp
  rw [he, Oper.upon_enter]
  refine hC.mono ?_
  intro e X hR
  obtain ⟨V, rfl, hSX, hV⟩ := h e X hR
  exact hK.out _ _ hSX (fun _ => hV)
theorem below_dr {n : Nat} {a w : World} (h : Below n a w) : Below n a w.drew := ⟨h.os, h.tape, h.output, h.size, h.block⟩
theorem ex_appendF {a : Act} {w : World} {o : Oper} {t e : TypeId} {size bytes k m c B base : Nat} {z v : Value} {xs news : List Value} {s x : Operand} (ho : o.op = .call { callee := .builtin .append, args := #[s, x], argTypes := #[t, t] }) (hs : a.eval s = v) (hx : a.eval x = .slice (some ⟨B, 0, none⟩) m c)
    (ht : Try.prog.underlying t = some (.slice e)) (hi : (Try.prog.info? e).map (fun i => (i.zero, i.size, i.bytes)) = some (some z, size, bytes)) (hz : z.cells.size = size) (hsz : 0 < size) (hown : w.ownsRow base e size v k xs) (hB : Holds w B news) (hl : news.length = m * size) (h1 : ∀ u ∈ news, u.oneCell' = true)
    (hn : k + m ≤ 1000000) (hby : bytes ≤ 10000) (hbase : base ≤ w.heap.size) :
    ∃ A c' w', (execOp a.eval o).run Try.prog w = .ok (.value (.slice A (k + m) c')) w' ∧ w'.ownsRow base e size (.slice A (k + m) c') (k + m) (xs ++ news) ∧ w.grownBy w' v.ownBlock ∧ Fresh w v (.slice A (k + m) c') := by
  obtain ⟨i0, hi, hz0, hz1, hz2⟩ := info_parts hi
  obtain ⟨v', w', hrun, h2, h3, h4⟩ := append_fresh w base t o.type e i0 _ size bytes ht hi hz0 hz1 hz2 hz hsz v k xs hown ⟨B, 0, none⟩ m c news hl (fun j u hj => by
    rw [Addr.add_mid]
    exact hB.2 j u hj) h1 (by unfold maxLen; omega) (Nat.le_trans (Nat.mul_le_mul hn hby) (by decide)) hbase
  obtain ⟨A', c', rfl⟩ := own_form h2
  refine ⟨A', c', w', ?_, h2, h3, h4⟩
  simp [execOp, ho, resolve, invoke, builtin, hs, hx, hrun, Result.andThen]
theorem gappF {md : Region.Mode} {ops : Array Oper} {Q : Exit → Act → World → Prop} {S : World → Prop} {w : World} {fuel : Nat} {listed : Array Bool} {a : Act} {o : Oper} {rs : List Nat} (i : Nat) (dst : Option Tmp) {t e : TypeId} {size bytes k m c B base : Nat} {z v : Value} {xs news : List Value} {s x : Operand} (hi0 : ops[i]? = some o) (hd : o.dst = dst) (hw : Region.wanted o (yielded ops a.tmps) = true) (ho : o.op = .call { callee := .builtin .append, args := #[s, x], argTypes := #[t, t] }) (hs : a.eval s = v) (hx : a.eval x = .slice (some ⟨B, 0, none⟩) m c)
    (ht : Try.prog.underlying t = some (.slice e)) (hi : (Try.prog.info? e).map (fun i => (i.zero, i.size, i.bytes)) = some (some z, size, bytes)) (hz : z.cells.size = size) (hsz : 0 < size) (hown : w.ownsRow base e size v k xs) (hB : Holds w B news) (hl : news.length = m * size) (h1 : ∀ u ∈ news, u.oneCell' = true)
    (hn : k + m ≤ 1000000) (hby : bytes ≤ 10000) (hbase : base ≤ w.heap.size) (hon : ∀ X, w.grownBy X v.ownBlock → S X)
    (h : ∀ A c' X, X.ownsRow base e size (.slice A (k + m) c') (k + m) (xs ++ news) → w.grownBy X v.ownBlock → Fresh w v (.slice A (k + m) c') → wpAnyH Try.prog md ops Q S fuel (listed.setIfInBounds i true) (a.put dst (.slice A (k + m) c')) X) (hs2 : AllReadyH Try.prog md ops Q S fuel listed a w rs) : AllReadyH Try.prog md ops Q S fuel listed a w (i :: rs) := by
  obtain ⟨A, c', w', he, h2, h3, h4⟩ := ex_appendF ho hs hx ht hi hz hsz hown hB hl h1 hn hby hbase
  exact gval i dst hi0 hd hw he (hon w' h3) (h A c' w' h2 h3 h4) hs2
theorem ex_appendG {a : Act} {w : World} {o : Oper} {t e : TypeId} {size bytes k m c B off base : Nat} {z v : Value} {xs news : List Value} {s x : Operand} (ho : o.op = .call { callee := .builtin .append, args := #[s, x], argTypes := #[t, t] }) (hs : a.eval s = v) (hx : a.eval x = .slice (some ⟨B, off, none⟩) m c)
    (ht : Try.prog.underlying t = some (.slice e)) (hi : (Try.prog.info? e).map (fun i => (i.zero, i.size, i.bytes)) = some (some z, size, bytes)) (hz : z.cells.size = size) (hsz : 0 < size) (hown : w.ownsRow base e size v k xs) (hB : w.rangeAt B off news) (hl : news.length = m * size) (h1 : ∀ u ∈ news, u.oneCell' = true)
    (hn : k + m ≤ 1000000) (hby : bytes ≤ 10000) (hbase : base ≤ w.heap.size) :
    ∃ A c' w', (execOp a.eval o).run Try.prog w = .ok (.value (.slice A (k + m) c')) w' ∧ w'.ownsRow base e size (.slice A (k + m) c') (k + m) (xs ++ news) ∧ w.grownBy w' v.ownBlock ∧ Fresh w v (.slice A (k + m) c') := by
  obtain ⟨i0, hi, hz0, hz1, hz2⟩ := info_parts hi
  obtain ⟨v', w', hrun, h2, h3, h4⟩ := append_fresh w base t o.type e i0 _ size bytes ht hi hz0 hz1 hz2 hz hsz v k xs hown ⟨B, off, none⟩ m c news hl (fun j u hj => by
    rw [Addr.add_mid]
    exact hB j u hj) h1 (by unfold maxLen; omega) (Nat.le_trans (Nat.mul_le_mul hn hby) (by decide)) hbase
  obtain ⟨A', c', rfl⟩ := own_form h2
  refine ⟨A', c', w', ?_, h2, h3, h4⟩
  simp [execOp, ho, resolve, invoke, builtin, hs, hx, hrun, Result.andThen]
theorem gappG {md : Region.Mode} {ops : Array Oper} {Q : Exit → Act → World → Prop} {S : World → Prop} {w : World} {fuel : Nat} {listed : Array Bool} {a : Act} {o : Oper} {rs : List Nat} (i : Nat) (dst : Option Tmp) {t e : TypeId} {size bytes k m c B off base : Nat} {z v : Value} {xs news : List Value} {s x : Operand} (hi0 : ops[i]? = some o) (hd : o.dst = dst) (hw : Region.wanted o (yielded ops a.tmps) = true) (ho : o.op = .call { callee := .builtin .append, args := #[s, x], argTypes := #[t, t] }) (hs : a.eval s = v) (hx : a.eval x = .slice (some ⟨B, off, none⟩) m c)
    (ht : Try.prog.underlying t = some (.slice e)) (hi : (Try.prog.info? e).map (fun i => (i.zero, i.size, i.bytes)) = some (some z, size, bytes)) (hz : z.cells.size = size) (hsz : 0 < size) (hown : w.ownsRow base e size v k xs) (hB : w.rangeAt B off news) (hl : news.length = m * size) (h1 : ∀ u ∈ news, u.oneCell' = true)
    (hn : k + m ≤ 1000000) (hby : bytes ≤ 10000) (hbase : base ≤ w.heap.size) (hon : ∀ X, w.grownBy X v.ownBlock → S X)
    (h : ∀ A c' X, X.ownsRow base e size (.slice A (k + m) c') (k + m) (xs ++ news) → w.grownBy X v.ownBlock → Fresh w v (.slice A (k + m) c') → wpAnyH Try.prog md ops Q S fuel (listed.setIfInBounds i true) (a.put dst (.slice A (k + m) c')) X) (hs2 : AllReadyH Try.prog md ops Q S fuel listed a w rs) : AllReadyH Try.prog md ops Q S fuel listed a w (i :: rs) := by
  obtain ⟨A, c', w', he, h2, h3, h4⟩ := ex_appendG ho hs hx ht hi hz hsz hown hB hl h1 hn hby hbase
  exact gval i dst hi0 hd hw he (hon w' h3) (h A c' w' h2 h3 h4) hs2
/-- make of a slice of length nought. -/
theorem mk_any {ops : Array Oper} {rest : List Oper} {Q : Exit → Act → World → Prop} {w : World} {a : Act} {o : Oper} {t e : TypeId} {size bytes : Nat} {z : Value} {c x : Operand} (n : Nat) (hw : Region.wanted o (yielded ops a.tmps) = true) (ho : o.op = .makeSlice t c x) (hc : a.eval c = .int .i64 0) (hx : a.eval x = .int .i64 (n : Nat))
    (ht : Try.prog.underlying t = some (.slice e)) (hi : (Try.prog.info? e).map (fun i => (i.zero, i.size, i.bytes)) = some (some z, size, bytes)) (hn : n ≤ 100000) (hs : size ≤ 100) (hby : bytes ≤ 10000)
    (h : ∀ wm, wm.ownsRow w.heap.size e size (.slice (some ⟨w.heap.size, 0, none⟩) 0 n) 0 [] → Below w.heap.size w wm → wpList Try.prog ops Q rest (a.put o.dst (.slice (some ⟨w.heap.size, 0, none⟩) 0 n)) wm) : wpList Try.prog ops Q (o :: rest) a w := by
  obtain ⟨i0, hi, hz0, hz1, hz2⟩ := info_parts hi
  obtain ⟨wm, hrun, hm1, hm2⟩ := run_makeSlice_owned (P := Try.prog) w w.heap.size t e i0 _ size ht hi hz0 hz1 .i64 .i64 n (Nat.le_trans (Nat.mul_le_mul hn hs) (by decide)) (by rw [hz2]; exact Nat.le_trans (Nat.mul_le_mul hby hn) (by decide)) (by unfold maxLen; omega) (Nat.le_refl _)
  refine BigFrame.wpList_want hw fun K hK => ?_
  have hP := hK _ _ (h wm hm1 ⟨hm2.os, hm2.tape, hm2.output, hm2.size, fun k hk => hm2.block k hk (by simp)⟩)
  unfold Oper.wp execOp
  simp only [ho, hc, hx]
  simp [hrun]
  exact hP
theorem own_mono {w : World} {base base' e s n : Nat} {v : Value} {xs : List Value} (h : w.ownsRow base e s v n xs) (hb : base' ≤ base) : w.ownsRow base' e s v n xs := by
  obtain ⟨h1, h2⟩ := h
  refine ⟨h1, ?_⟩
  rcases h2 with h2 | ⟨g, cap, cur, rfl, h3, h4⟩
  · exact .inl h2
  · exact .inr ⟨g, cap, cur, rfl, Nat.le_trans hb h3, h4⟩
theorem ex_indexG {o : Oper} {a : Act} {w : World} {x ix : Operand} {g off n cap : Nat} (t : TypeId) (sz j : Nat) (hk : Try.prog.underlying t = some (.slice (Try.prog.elem t))) (he : ∀ w, (sizeOf (Try.prog.elem t)).run Try.prog w = .ok sz w) (ho : o.op = .indexAddr t x ix) (hx : a.eval x = .slice (some ⟨g, off, none⟩) n cap) (hix : a.eval ix = .int .i64 (j : Nat)) (hj : j < n) : (execOp a.eval o).run Try.prog w = .ok (.value (.pointer (some ⟨g, off + j * sz, none⟩))) w := by
  have h1 : (Instr.indexAt t (.slice (some ⟨g, off, none⟩) n cap) (.int .i64 (j : Nat))).run Try.prog w = .ok (.pointer (some ⟨g, off + j * sz, none⟩)) w := by
    rw [run_indexAt_slice (h := hk), if_pos ⟨by omega, by omega⟩, he]
    have e2 : (Addr.add ⟨g, off, none⟩ ((j : Int).toNat * sz)) = ⟨g, off + j * sz, none⟩ := by
      rw [Addr.add_mid]
      simp
    show Result.ok (Value.pointer (some (Addr.add ⟨g, off, none⟩ ((j : Int).toNat * sz)))) w = _
    rw [e2]
  unfold execOp
  simp only [ho, hx, hix]
  simp [h1]
/-- A key. -/
structure KK where
  s : ByteArray
  n : Int
def KK.agg (k : KK) : Value := .agg #[.string k.s, .int .i64 k.n]
def KK.cs (k : KK) : List Value := [.string k.s, .int .i64 k.n]
theorem KK.ext' {a b : KK} (h1 : a.s = b.s) (h2 : a.n = b.n) : a = b := by cases a; cases b; cases h1; cases h2; rfl
theorem laidOut : laidOutB Try.prog = true := by kernel_rfl
theorem rowk41 : (30 : TypeId) < Try.prog.types.size := of_decide_eq_true (by kernel_rfl)
theorem key41 : Try.prog.keyTypeAt 2 30 = true := by kernel_rfl
theorem law41 : Keyed Try.prog 30 := Keyed.of_law (deep_law_laid laidOut (m := 2) (by omega) rowk41 key41 (by rw [Try.underlying30]))
theorem keyT41 : Try.prog.keyType 30 = true := by kernel_rfl
theorem size_types' : decide ((1 : Nat) ≤ Try.prog.types.size) = true := by kernel_rfl
theorem size_types : ∃ n : Nat, Try.prog.types.size + 1 = n + 2 := by
  have h : (1 : Nat) ≤ Try.prog.types.size := of_decide_eq_true size_types'
  generalize Try.prog.types.size = m at h
  exact ⟨m - 1, by omega⟩
/-- What a key reads as. -/
def klit (s : ByteArray) (n : Int) : Lit := .string (keyBytes [.string s.data.toList, .int .i64 n])
theorem keyOf41 (s : ByteArray) (n : Int) (hs : s.size ≤ maxLen) (hn : (Lit.int .i64 n).wf = true) : keyOf Try.prog 30 (.agg #[.string s, .int .i64 n]) = some (klit s n) := by
  obtain ⟨N, hN⟩ := size_types
  unfold keyOf
  rw [Try.underlying30]
  simp only []
  rw [hN]
  have c41 : Try.prog.cellsOf 30 = 2 := by kernel_rfl
  have hf : Value.formed Try.prog 30 (.agg #[.string s, .int .i64 n]) = true := by
    simp [Value.formed, Try.underlying30, Try.underlying3, Try.underlying9, c41]
  have c9 : Try.prog.cellsOf 9 = 1 := by kernel_rfl
  have c3 : Try.prog.cellsOf 3 = 1 := by kernel_rfl
  rw [hf, keyT41]
  simp [Program.keyLits, Try.underlying30, Try.underlying3, Try.underlying9, c9, c3, c41, hs, hn, Value.cells, klit]
theorem klit_inj {s s' : ByteArray} {n n' : Int} (hs : s.size ≤ maxLen) (hn : (Lit.int .i64 n).wf = true) (hs' : s'.size ≤ maxLen) (hn' : (Lit.int .i64 n').wf = true) (h : klit s n = klit s' n') : s = s' ∧ n = n' := by
  have := law41.inj (keyOf41 s n hs hn) (h ▸ keyOf41 s' n' hs' hn')
  simpa using this
theorem klit_key {s : ByteArray} {n : Int} (hs : s.size ≤ maxLen) (hn : (Lit.int .i64 n).wf = true) : WideAt.IsKeyLit (klit s n) := law41.key (keyOf41 s n hs hn)
def OkK (k : KK) : Prop := k.s.size ≤ maxLen ∧ (Lit.int .i64 k.n).wf = true
def kl (k : KK) : Lit := klit k.s k.n
theorem keyOfK {k : KK} (h : OkK k) : keyOf Try.prog 30 k.agg = some (kl k) := keyOf41 k.s k.n h.1 h.2
theorem kl_inj {k k' : KK} (h : OkK k) (h' : OkK k') (e : kl k = kl k') : k = k' := by
  obtain ⟨h1, h2⟩ := klit_inj h.1 h.2 h'.1 h'.2 e
  exact KK.ext' h1 h2
theorem kl_key {k : KK} (h : OkK k) : WideAt.IsKeyLit (kl k) := klit_key h.1 h.2
theorem alG {ops : Array Oper} {rest : List Oper} {Q : Exit → Act → World → Prop} {w w0 : World} {a : Act} {o : Oper} {E : List Nat} {L : List (Nat × List Value)} (t : TypeId) (cs : List Value) (hw : Region.wanted o (yielded ops a.tmps) = true) (ho : o.op = .alloc t) (hz : ∀ w, (zeroValue t).run Try.prog w = .ok (.agg cs.toArray) w) (hc : 0 < cs.length) (hL : Hq w0 w E L)
    (h : ∀ X B, B = w.heap.size → Hq w0 X E (L ++ [(B, cs)]) → Below w.heap.size w X → wpList Try.prog ops Q rest (a.put o.dst (.pointer (some ⟨B, 0, none⟩))) X) : wpList Try.prog ops Q (o :: rest) a w := by
  refine BigFrame.wpList_want hw fun K hK => ?_
  have hP := hK _ _ (h _ _ rfl (hL.new cs t hc) ((Below.refl _ _).alloc (Nat.le_refl _) _))
  unfold Oper.wp execOp
  simp only [ho]
  simp [go_sem, hz, Value.cells]
  exact hP
theorem ret_c {fn : Func} {R : Ending → World → Prop} {a : Act} {w : World} {b r T n : Nat} {cs : List Value} (hT : ∃ d, Try.prog.underlying T = some d ∧ d.isRow = true) (hn : (Try.prog.info? T).map (·.size) = some n) (hr : fn.results = #[.cell r T]) (hdf : a.defers = [])
    (hx : a.tmps.getD r undef = .pointer (some ⟨b, 0, none⟩)) (hc : Holds w b cs) (hcs : cs.length = n) (h : R (.returned (.agg cs.toArray)) w) : bodyPost Try.prog fn R .ret a w := by
  obtain ⟨t, hu, hd⟩ := hT
  have h0 := hc.mid 0 n
  rw [List.drop_zero, List.take_of_length_le (by omega)] at h0
  have hl := run_loadVar_mid (P := Try.prog) w b 0 T _ t h0 hu hd (by rw [hn, hcs])
  refine ⟨hdf, _, ?_, h⟩
  simp only [Array.getD_eq_getD_getElem?] at hx
  unfold results
  simp [hr, hx, hl, asAddr]
  try rfl
theorem ex_lenG {o : Oper} {a : Act} {w : World} {m : Operand} {A : Option Addr} {n c : Nat} (t e : TypeId) (ht : Try.prog.underlying t = some (.slice e)) (ho : o.op = .call { callee := .builtin .len, args := #[m], argTypes := #[t] }) (hm : a.eval m = .slice A n c) : (execOp a.eval o).run Try.prog w = .ok (.value (.int .i64 (n : Nat))) w := by
  simp [execOp, ho, resolve, invoke, builtin, hm, Builtin.len_, Result.andThen, goInt, ht, run_underlying ht]
theorem ex_eqYes {o : Oper} {a : Act} {w : World} {x y : Operand} {n m : Int} (ho : o.op = .binOp .eql 3 x y 3) (hx : a.eval x = .int .i64 n) (hc : a.eval y = .int .i64 m) (h : n = m) : (execOp a.eval o).run Try.prog w = .ok (.value (.bool true)) w := by
  unfold execOp
  simp only [ho, hx, hc]
  simp [go_sem, eqGuard, h]
theorem rangeAt_fr {w X : World} {b p : Nat} {cs : List Value} (h : w.rangeAt b p cs) (hb : b < w.heap.size) (hf : Fr w X []) : X.rangeAt b p cs := fun j v hv => by
  have e := h j v hv
  have h1 := hf.block b hb (by simp)
  unfold World.cell? at e ⊢
  dsimp only at e ⊢
  rw [h1]
  exact e
theorem ex_eqNo {o : Oper} {a : Act} {w : World} {x y : Operand} {n m : Int} (ho : o.op = .binOp .eql 3 x y 3) (hx : a.eval x = .int .i64 n) (hc : a.eval y = .int .i64 m) (h : n ≠ m) : (execOp a.eval o).run Try.prog w = .ok (.value (.bool false)) w := by
  unfold execOp
  simp only [ho, hx, hc]
  simp [go_sem, eqGuard, h]
/-- A property: its key, and its descriptor. -/
structure PR where
  k : KK
  d : DD
def PR.cs (p : PR) : List Value := p.k.cs ++ p.d.cs
def PR.agg (p : PR) : Value := .agg p.cs.toArray
/-- A shape: class, prototype, extensible, properties. -/
structure SH where
  c : Int
  p : VV
  x : Bool
  ps : List PR
def SH.cs (s : SH) (A : Option Addr) (cap : Nat) : List Value := [.int .i64 s.c] ++ s.p.cs ++ [.bool s.x, .slice A s.ps.length cap]
def SH.agg (s : SH) (A : Option Addr) (cap : Nat) : Value := .agg (s.cs A cap).toArray
theorem pcs_length (p : PR) : p.cs.length = 20 := rfl
theorem shcs_length (p : SH) (A : Option Addr) (cap : Nat) : (p.cs A cap).length = 8 := rfl
theorem vagg (v : VV) : v.agg = .agg v.cs.toArray := rfl
theorem dagg (v : DD) : v.agg = .agg v.cs.toArray := rfl
theorem kagg (v : KK) : v.agg = .agg v.cs.toArray := rfl
theorem pcs_one (p : PR) : ∀ u ∈ p.cs, u.oneCell' = true := by simp [PR.cs, KK.cs, DD.cs, Value.oneCell']
theorem shcs_one (p : SH) (A : Option Addr) (cap : Nat) : ∀ u ∈ p.cs A cap, u.oneCell' = true := by simp [SH.cs, VV.cs, Value.oneCell']
theorem vcs_one (v : VV) : ∀ u ∈ v.cs, u.oneCell' = true := by simp [VV.cs, Value.oneCell']
def OkP (p : PR) : Prop := FD p.d ∧ OkK p.k
/-- A slice whose elements are these properties. -/
def ReadsP (w : World) (A : Option Addr) (l : List PR) : Prop := ∀ j p, l[j]? = some p → OkP p ∧ ∃ b off, A = some ⟨b, off, none⟩ ∧ b < w.heap.size ∧ w.rangeAt b (off + j * 20) p.cs
/-- A slice whose elements are these shapes. -/
def ReadsS (w : World) (A : Option Addr) (l : List SH) : Prop := ∀ j s, l[j]? = some s → s.p.x < 2 ^ 64 ∧ s.ps.length ≤ 733007751850 ∧ ∃ b off SA cap, A = some ⟨b, off, none⟩ ∧ b < w.heap.size ∧ ReadsP w SA s.ps ∧ w.rangeAt b (off + j * 8) (s.cs SA cap)
theorem ReadsP.fr {w X : World} {A : Option Addr} {l : List PR} (h : ReadsP w A l) (hf : Fr w X []) : ReadsP X A l := fun j p hp => by
  obtain ⟨h1, b, off, h2, h3, h4⟩ := h j p hp
  exact ⟨h1, b, off, h2, Nat.lt_of_lt_of_le h3 hf.size, rangeAt_fr h4 h3 hf⟩
theorem ReadsS.fr {w X : World} {A : Option Addr} {l : List SH} (h : ReadsS w A l) (hf : Fr w X []) : ReadsS X A l := fun j p hp => by
  obtain ⟨h1, h6, b, off, SA, cap, h2, h3, h5, h4⟩ := h j p hp
  exact ⟨h1, h6, b, off, SA, cap, h2, Nat.lt_of_lt_of_le h3 hf.size, h5.fr hf, rangeAt_fr h4 h3 hf⟩
instance decK : DecidableEq KK := fun a b => decidable_of_iff (a.s = b.s ∧ a.n = b.n) ⟨fun h => KK.ext' h.1 h.2, fun h => h ▸ ⟨rfl, rfl⟩⟩
def zeroP : PR := ⟨⟨⟨#[]⟩, 0⟩, zeroD⟩
def zeroS : SH := ⟨0, zeroV, false, []⟩
theorem range_mid {w : World} {b p : Nat} {cs : List Value} (h : w.rangeAt b p cs) (k n : Nat) : w.rangeAt b (p + k) ((cs.drop k).take n) := by
  intro j v hv
  rw [List.getElem?_take] at hv
  split at hv
  · rw [List.getElem?_drop] at hv
    have := h (k + j) v hv
    rwa [show p + (k + j) = p + k + j by omega] at this
  · cases hv
theorem eql41 (a b : KK) (w : World) : (binOp .eql 30 a.agg b.agg).run Try.prog w = .ok (.bool (decide (a = b))) w := by
  unfold KK.agg
  have ht : Try.prog.underlying 30 = some (.struct (Try.prog.fieldsOf 30)) := by kernel_rfl
  rw [run_eql_struct, show (10000 : Nat) = 9998 + 1 + 1 from rfl, run_equalIn_struct _ _ _ _ _ ht (by kernel_rfl)]
  have hf : Try.prog.fieldsOf 30 = (match Try.prog.underlying 30 with | some (.struct f) => f | _ => #[]) := by kernel_rfl
  rw [hf, Try.underlying30]
  simp [Op.eqFields, go_sem, part]
  by_cases h1 : a.s.toList = b.s.toList
  · by_cases h2 : a.n = b.n
    · rw [if_pos h1, if_pos h2, decide_eq_true (KK.ext' (toList_inj h1) h2)]
    · rw [if_pos h1, if_neg h2, decide_eq_false (fun e : a = b => h2 (congrArg KK.n e))]
  · rw [if_neg h1, decide_eq_false (fun e : a = b => h1 (congrArg (fun z : KK => z.s.toList) e))]
theorem ex_eql41 {o : Oper} {a : Act} {w : World} {x y : Operand} (k q : KK) (ho : o.op = .binOp .eql 30 x y 30) (hx : a.eval x = k.agg) (hy : a.eval y = q.agg) : (execOp a.eval o).run Try.prog w = .ok (.value (.bool (decide (k = q)))) w := by
  have e := eql41 k q w
  have e2 : (eqGuard .eql 30 x y k.agg q.agg).run Try.prog w = .ok () w := by kernel_rfl
  unfold execOp
  simp only [ho, hx, hy]
  simp [e, e2]
theorem flat_len {α : Type} (f : α → List Value) (k : Nat) (hk : ∀ a, (f a).length = k) : ∀ l : List α, (l.flatMap f).length = l.length * k
  | [] => by simp
  | d :: l => by
    rw [List.flatMap_cons, List.length_append, hk, flat_len f k hk l, List.length_cons, Nat.add_mul, Nat.one_mul, Nat.add_comm]
theorem flat_get {α : Type} (f : α → List Value) (k : Nat) (hk : ∀ a, (f a).length = k) : ∀ (l : List α) (j t : Nat) (hj : j < l.length), t < k → (l.flatMap f)[j * k + t]? = (f l[j])[t]?
  | [], j, t, hj, _ => by simp at hj
  | d :: l, 0, t, hj, ht => by
    rw [List.flatMap_cons, Nat.zero_mul, Nat.zero_add, List.getElem?_append_left (by rw [hk]; exact ht)]
    simp
  | d :: l, j + 1, t, hj, ht => by
    have e : (j + 1) * k + t - k = j * k + t := by rw [Nat.add_mul]; omega
    rw [List.flatMap_cons, List.getElem?_append_right (by rw [hk, Nat.add_mul]; omega), hk, e, flat_get f k hk l j t (by simpa using hj) ht]
    simp
theorem own_row {α : Type} {f : α → List Value} {k : Nat} (hk : ∀ a, (f a).length = k) {W : World} {base T n : Nat} {v : Value} {l : List α} (h : W.ownsRow base T k v n (l.flatMap f)) (hn : l.length = n) (j : Nat) (hj : j < l.length) : ∃ g c, v = .slice (some ⟨g, 0, none⟩) n c ∧ base ≤ g ∧ g < W.heap.size ∧ W.rangeAt g (0 + j * k) (f l[j]) := by
  rcases h.2 with ⟨h1, h0⟩ | ⟨g, cap, cur, h1, h2, h3, h4, h5, h6, h7⟩
  · omega
  · refine ⟨g, cap, h1, h2, (Array.getElem?_eq_some_iff.1 h3).1, fun t u hu => ?_⟩
    have ht : t < k := by
      have := (List.getElem?_eq_some_iff.1 hu).1
      rwa [hk] at this
    have hlt : j * k + t < n * k := by
      have : (j + 1) * k ≤ n * k := Nat.mul_le_mul_right k (by omega)
      rw [Nat.add_mul] at this
      omega
    have h8 : (cur.toList.take (n * k))[j * k + t]? = (l.flatMap f)[j * k + t]? := by rw [h7]
    rw [List.getElem?_take, if_pos hlt, flat_get f k hk l j t hj ht, hu] at h8
    have e2 : cur[j * k + t]? = some u := by simpa using h8
    rw [Nat.zero_add]
    simp [World.cell?, h3, e2]
theorem own_blk {w w' : World} {base e s n : Nat} {v : Value} {xs : List Value} (h : w.ownsRow base e s v n xs) (he : ∀ g, v.ownBlock = some g → w'.heap[g]? = w.heap[g]?) : w'.ownsRow base e s v n xs := by
  obtain ⟨h1, h2⟩ := h
  refine ⟨h1, ?_⟩
  rcases h2 with h2 | ⟨g, cap, cur, rfl, h3, h4, h5⟩
  · exact .inl h2
  · exact .inr ⟨g, cap, cur, rfl, h3, (he g rfl).trans h4, h5⟩
theorem own_fr {w w' : World} {base e s n : Nat} {v : Value} {xs : List Value} (h : w.ownsRow base e s v n xs) (hf : Fr w w' []) : w'.ownsRow base e s v n xs := own_blk h (fun g hg => hf.block g (World.ownsRow.lt h g hg).2 (by simp))
theorem ReadsP.far {X Y : World} {A : Option Addr} {l : List PR} {E : List Nat} (h : ReadsP X A l) (hf : Fr X Y E) (hE : ∀ b off, A = some ⟨b, off, none⟩ → b ∉ E) : ReadsP Y A l := fun j p hp => by
  obtain ⟨h1, b, off, h2, h3, h4⟩ := h j p hp
  refine ⟨h1, b, off, h2, Nat.lt_of_lt_of_le h3 hf.size, fun t v hv => ?_⟩
  have e := h4 t v hv
  have hb := hf.block b h3 (hE b off h2)
  unfold World.cell? at e ⊢
  dsimp only at e ⊢
  rw [hb]
  exact e
/-- A slice whose elements are these shapes; a nil row of properties has no room. -/
def ReadsT (w : World) (A : Option Addr) (l : List SH) : Prop := ∀ j s, l[j]? = some s → s.p.x < 2 ^ 64 ∧ s.ps.length ≤ 733007751850 ∧ ∃ b off SA cap, A = some ⟨b, off, none⟩ ∧ b < w.heap.size ∧ ReadsP w SA s.ps ∧ w.rangeAt b (off + j * 8) (s.cs SA cap) ∧ (SA = none → cap = 0)
theorem ReadsT.s {w : World} {A : Option Addr} {l : List SH} (h : ReadsT w A l) : ReadsS w A l := fun j s hs => by
  obtain ⟨h1, h2, b, off, SA, cap, h3, h4, h5, h6, -⟩ := h j s hs
  exact ⟨h1, h2, b, off, SA, cap, h3, h4, h5, h6⟩
def flatP (l : List PR) : List Value := l.flatMap PR.cs
theorem flatP_one (l : List PR) : ∀ u ∈ flatP l, u.oneCell' = true := by
  intro u hu
  obtain ⟨p, -, hp⟩ := List.mem_flatMap.1 hu
  exact pcs_one p u hp
theorem own_readsP {W : World} {base : Nat} {A : Option Addr} {c : Nat} {l : List PR} (hok : ∀ p ∈ l, OkP p) (h : W.ownsRow base 56 20 (.slice A l.length c) l.length (flatP l)) : ReadsP W A l := fun j p hp => by
  have hj := (List.getElem?_eq_some_iff.1 hp).1
  obtain ⟨g, c', h1, h2, h3, h4⟩ := own_row pcs_length h rfl j hj
  cases h1
  have e : l[j] = p := (List.getElem?_eq_some_iff.1 hp).2
  rw [e] at h4
  exact ⟨hok p (List.mem_of_getElem? hp), g, 0, rfl, h3, h4⟩
theorem inf46 : (Try.prog.info? 56).map (fun i => (i.zero, i.size, i.bytes)) = some (some zeroP.agg, 20, 192) := by kernel_rfl
theorem inf28 : (Try.prog.info? 48).map (fun i => (i.zero, i.size, i.bytes)) = some (some (zeroS.agg none 0), 8, 88) := by kernel_rfl
theorem none26 (w : World) : (Instr.buildSlice 46 0 #[]).run Try.prog w = .ok (.slice (some ⟨w.heap.size, 0, none⟩) 0 0) (w.alloc (Obj.cells #[] 56)) := by kernel_rfl
section
variable {ops : Array Oper} {rest : List Oper} {Q : Exit → Act → World → Prop} {a : Act} {w : World} {o : Oper}
theorem noneG (t e : TypeId) (size : Nat) (base : Nat) (hb : base ≤ w.heap.size) (hw : Region.wanted o (yielded ops a.tmps) = true) (ho : o.op = .buildSlice t 0 #[]) (hr : ∀ w, (Instr.buildSlice t 0 #[]).run Try.prog w = .ok (.slice (some ⟨w.heap.size, 0, none⟩) 0 0) (w.alloc (Obj.cells #[] e)))
    (h : ∀ X B, B = w.heap.size → X.ownsRow base e size (.slice (some ⟨B, 0, none⟩) 0 0) 0 [] → Below w.heap.size w X → wpList Try.prog ops Q rest (a.put o.dst (.slice (some ⟨B, 0, none⟩) 0 0)) X) : wpList Try.prog ops Q (o :: rest) a w := by
  refine BigFrame.wpList_want hw fun K hK => ?_
  have hP := hK _ _ (h (w.alloc (Obj.cells #[] e)) w.heap.size rfl ⟨by simp, .inr ⟨w.heap.size, 0, #[], rfl, hb, (MapKept.heap_alloc w _).1, Nat.le_refl _, Nat.zero_le _, by simp, by simp⟩⟩ ((Below.refl _ _).alloc (Nat.le_refl _) _))
  have he : (execOp a.eval o).run Try.prog w = .ok (.value (.slice (some ⟨w.heap.size, 0, none⟩) 0 0)) (w.alloc (Obj.cells #[] e)) := by
    unfold execOp
    simp only [ho, List.map_toArray, List.map_nil]
    simp [hr w]
  unfold Oper.wp
  rw [he]
  exact hP
/-- A row of properties, copied. -/
theorem app_P {c B base : Nat} {A : Option Addr} {l : List PR} {s x : Operand} (hw : Region.wanted o (yielded ops a.tmps) = true) (ho : o.op = .call { callee := .builtin .append, args := #[s, x], argTypes := #[46, 46] }) (hs : a.eval s = .slice (some ⟨B, 0, none⟩) 0 0) (hx : a.eval x = .slice A l.length c)
    (hown : w.ownsRow base 56 20 (.slice (some ⟨B, 0, none⟩) 0 0) 0 []) (hR : ReadsP w A l) (hc : A = none → c = 0) (hn : l.length ≤ 733007751850) (hbase : base ≤ w.heap.size) (av : Nat) (hav : B ≠ av) (hal : av < w.heap.size)
    (h : ∀ A' c' X, X.ownsRow base 56 20 (.slice A' l.length c') l.length (flatP l) → Fr w X [B] → (∀ g, (Value.slice A' l.length c').ownBlock = some g → g ≠ av) → wpList Try.prog ops Q rest (a.put o.dst (.slice A' l.length c')) X) : wpList Try.prog ops Q (o :: rest) a w := by
  obtain ⟨i0, hi', hz0, hz1, hz2⟩ := info_parts inf46
  cases A with
  | none =>
    have hl : l = [] := by
      cases l with
      | nil => rfl
      | cons p r =>
        obtain ⟨_, b, off, h1, _⟩ := hR 0 p rfl
        cases h1
    subst hl
    have hc0 := hc rfl
    subst hc0
    have hrun := run_append_owned_none (P := Try.prog) (w := w) base 46 o.type 56 i0 20 Try.underlying46 hi' (.slice (some ⟨B, 0, none⟩) 0 0) 0 [] hown
    refine BigFrame.wpList_want hw fun K hK => ?_
    have hP := hK _ _ (h _ _ w hown (Fr.refl _ _) (fun g hg => by obtain rfl : B = g := Option.some.inj hg; exact hav))
    unfold Oper.wp
    have hx' : a.eval x = .slice none 0 0 := hx
    simp [execOp, ho, resolve, invoke, builtin, hs, hx', hrun, Result.andThen]
    exact hP
  | some ad =>
    have hnews : ∀ j u, (flatP l)[j]? = some u → w.cell? (ad.add j) = some u := fun j u hu => by
      have hj := (List.getElem?_eq_some_iff.1 hu).1
      unfold flatP at hj hu
      rw [flat_len PR.cs 20 pcs_length] at hj
      have hq : j / 20 < l.length := by omega
      obtain ⟨_, b, off, h1, h2, h3⟩ := hR (j / 20) l[j / 20] (List.getElem?_eq_getElem hq)
      cases h1
      have e : j = j / 20 * 20 + j % 20 := by omega
      have h4 : (l.flatMap PR.cs)[j / 20 * 20 + j % 20]? = (l[j / 20]).cs[j % 20]? := flat_get PR.cs 20 pcs_length l (j / 20) (j % 20) hq (by omega)
      rw [← e, hu] at h4
      have h5 := h3 (j % 20) u h4.symm
      rw [Addr.add_mid]
      rwa [show off + j / 20 * 20 + j % 20 = off + j by omega] at h5
    obtain ⟨v', X, hrun, h2, h3, h4⟩ := append_fresh w base 46 o.type 56 i0 _ 20 192 Try.underlying46 hi' hz0 hz1 hz2 rfl (by omega) (.slice (some ⟨B, 0, none⟩) 0 0) 0 [] hown ad l.length c (flatP l) (flat_len PR.cs 20 pcs_length l) hnews (flatP_one l) (by unfold maxLen; omega) (by omega) hbase
    rw [Nat.zero_add, List.nil_append] at h2
    obtain ⟨A', c', hf⟩ := own_form h2
    subst hf
    refine BigFrame.wpList_want hw fun K hK => ?_
    have hP := hK _ _ (h A' c' X h2 (Fr.grown h3) (fun g hg => by
      rcases h4 with h5 | h5
      · rw [h5] at hg
        obtain rfl : B = g := Option.some.inj hg
        exact hav
      · rw [h5] at hg
        have : w.heap.size = g := Option.some.inj hg
        omega))
    unfold Oper.wp
    simp [execOp, ho, resolve, invoke, builtin, hs, hx, hrun, Result.andThen]
    exact hP
end
/-- A shape of the copy, and where its properties lie. -/
structure CE where
  s : SH
  A : Option Addr
  cap : Nat
def CE.cs (e : CE) : List Value := e.s.cs e.A e.cap
theorem ce_length (e : CE) : e.cs.length = 8 := rfl
/-- So much of the copy stands. -/
structure CRow (w wr : World) (l : List SH) (cv : Value) (cl : List CE) : Prop where
  own : wr.ownsRow w.heap.size 48 8 cv cl.length (cl.flatMap CE.cs)
  all : ∀ (j : Nat) (e : CE), cl[j]? = some e → l[j]? = some e.s ∧ ReadsP wr e.A e.s.ps
  off : ∀ e : CE, e ∈ cl → ∀ b o, e.A = some ⟨b, o, none⟩ → b < wr.heap.size ∧ cv.ownBlock ≠ some b
  fr : Fr w wr []
theorem CRow.nil (w : World) (l : List SH) : CRow w w l (.slice none 0 0) [] := ⟨⟨rfl, .inl ⟨rfl, rfl⟩⟩, fun j e he => by simp at he, fun e he => by simp at he, Fr.refl _ _⟩
theorem CRow.on {w wr X : World} {l : List SH} {cv : Value} {cl : List CE} (h : CRow w wr l cv cl) (hf : Fr wr X []) : CRow w X l cv cl :=
  ⟨own_fr h.own hf, fun j e he => ⟨(h.all j e he).1, (h.all j e he).2.fr hf⟩, fun e he b o hb => ⟨Nat.lt_of_lt_of_le (h.off e he b o hb).1 hf.size, (h.off e he b o hb).2⟩, h.fr.trans hf (by simp)⟩
theorem CRow.snoc {w X Y : World} {l : List SH} {cv cv' : Value} {cl : List CE} {e : CE} (h : CRow w X l cv cl) (ho : Y.ownsRow w.heap.size 48 8 cv' (cl.length + 1) (cl.flatMap CE.cs ++ e.cs)) (hg : X.grownBy Y cv.ownBlock) (hfr : Fresh X cv cv') (hl : l[cl.length]? = some e.s) (hp : ReadsP X e.A e.s.ps) (he : ∀ b o, e.A = some ⟨b, o, none⟩ → b < X.heap.size ∧ cv.ownBlock ≠ some b) : CRow w Y l cv' (cl ++ [e]) := by
  have hF : Fr X Y cv.ownBlock.toList := Fr.grown hg
  have hnew : ∀ b, b < X.heap.size → cv.ownBlock ≠ some b → cv'.ownBlock ≠ some b := fun b hb hc h2 => by
    rcases hfr with h3 | h3
    · exact hc (h3 ▸ h2)
    · rw [h3] at h2
      have : X.heap.size = b := Option.some.inj h2
      omega
  have hE : ∀ b, cv.ownBlock ≠ some b → b ∉ cv.ownBlock.toList := fun b hc hm => hc (by simpa using hm)
  refine ⟨by rw [List.length_append, List.flatMap_append]; simpa using ho, fun j q hq => ?_, fun q hq b o hb => ?_, h.fr.trans hF (fun b hb => .inr ?_)⟩
  · rcases Nat.lt_or_ge j cl.length with h1 | h1
    · rw [List.getElem?_append_left h1] at hq
      have h2 := h.all j q hq
      exact ⟨h2.1, h2.2.far hF (fun b o hb => hE b (h.off q (List.mem_of_getElem? hq) b o hb).2)⟩
    · rw [List.getElem?_append_right h1] at hq
      have h3 := (List.getElem?_eq_some_iff.1 hq).1
      have h4 : j = cl.length := by simp at h3; omega
      subst h4
      rw [Nat.sub_self] at hq
      obtain rfl : e = q := by simpa using hq
      exact ⟨hl, hp.far hF (fun b o hb => hE b (he b o hb).2)⟩
  · rcases List.mem_append.1 hq with h1 | h1
    · have h2 := h.off q h1 b o hb
      exact ⟨Nat.lt_of_lt_of_le h2.1 hF.size, hnew b h2.1 h2.2⟩
    · obtain rfl : q = e := by simpa using h1
      have h2 := he b o hb
      exact ⟨Nat.lt_of_lt_of_le h2.1 hF.size, hnew b h2.1 h2.2⟩
  · have hb2 : cv.ownBlock = some b := by simpa using hb
    exact (World.ownsRow.lt h.own b hb2).1
theorem CRow.reads {w wr : World} {l : List SH} {cv : Value} {cl : List CE} (h : CRow w wr l cv cl) (hl : cl.length = l.length) (hx : ∀ (j : Nat) (s : SH), l[j]? = some s → s.p.x < 2 ^ 64 ∧ s.ps.length ≤ 733007751850) : ∃ A c, cv = .slice A l.length c ∧ ReadsS wr A l := by
  obtain ⟨A, c, hf⟩ := own_form h.own
  refine ⟨A, c, by rw [hf, hl], fun j s hs => ?_⟩
  have hj : j < cl.length := by
    rw [hl]
    exact (List.getElem?_eq_some_iff.1 hs).1
  have he : cl[j]? = some cl[j] := List.getElem?_eq_getElem hj
  obtain ⟨h1, h2⟩ := h.all j _ he
  have e1 : cl[j].s = s := Option.some.inj (h1.symm.trans hs)
  obtain ⟨g, c2, h3, h4, h5, h6⟩ := own_row ce_length h.own rfl j hj
  rw [hf] at h3
  cases h3
  have h7 : wr.rangeAt g (0 + j * 8) (s.cs cl[j].A cl[j].cap) := e1 ▸ h6
  exact ⟨(hx j s hs).1, (hx j s hs).2, g, 0, cl[j].A, cl[j].cap, rfl, h5, e1 ▸ h2, h7⟩
end Go.Proofs.Ytcflglloopgieaa
