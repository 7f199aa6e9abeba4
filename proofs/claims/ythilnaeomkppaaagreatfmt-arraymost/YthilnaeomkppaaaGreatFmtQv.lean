import Derived.Test.YthilnaeomkppaaaGreatFmtQu
import Derived.Deep.MidRow
import Derived.BigFrame
import Derived.Laws.AppendOwnNone
import Derived.OwnWalk
import Derived.Great.BuildSlice
import Derived.RangeFuncRecord
set_option linter.all false
namespace Go.Proofs.YthilnaeomkppaaaGreatFmt
section
open Go Go.Proofs Go.RowKit
/-- A key of the program. -/
structure KK where
  s : ByteArray
  n : Int
def KK.agg (k : KK) : Value := .agg #[.string k.s, .int .i64 k.n]
def KK.cs (k : KK) : List Value := [.string k.s, .int .i64 k.n]
def KK.obj (k : KK) : Obj := Obj.cells #[.string k.s, .int .i64 k.n] 42
theorem KK.ext' {a b : KK} (h1 : a.s = b.s) (h2 : a.n = b.n) : a = b := by cases a; cases b; cases h1; cases h2; rfl
theorem agg_key (k : KK) : keyV k.s k.n = k.agg := rfl
def zeroK : KK := ⟨ByteArray.empty, 0⟩
/-- A key lies in block B. -/
def KLies (W : World) (B : Nat) (k : KK) : Prop := (∀ j, W.frozen? ⟨B, j, none⟩ = false) ∧ W.cell? ⟨B, 0, none⟩ = some (.string k.s) ∧ W.cell? ⟨B, 1, none⟩ = some (.int .i64 k.n)
theorem KLies.new (w : World) (B : Nat) (hB : B = w.heap.size) (k : KK) : KLies (w.alloc k.obj) B k := by
  subst hB
  unfold KLies KK.obj
  simp [go_sem]
theorem KLies.block {W W1 : World} {B : Nat} {k : KK} (h : KLies W B k) (he : W1.heap[B]? = W.heap[B]?) : KLies W1 B k := by
  have hc : ∀ j, W1.cell? ⟨B, j, none⟩ = W.cell? ⟨B, j, none⟩ := fun j => World.cell?_of_block he
  have hf : ∀ j, W1.frozen? ⟨B, j, none⟩ = W.frozen? ⟨B, j, none⟩ := fun j => World.frozen?_of_block he
  unfold KLies at *
  simp only [hc, hf]
  exact h
theorem KLies.range {W : World} {B : Nat} {k : KK} (h : KLies W B k) : W.rangeAt B 0 k.cs := by
  intro j v hv
  obtain ⟨-, h0, h1⟩ := h
  match j, hv with
  | 0, hv => exact (Option.some.inj hv) ▸ h0
  | 1, hv => exact (Option.some.inj hv) ▸ h1
  | _ + 2, hv => exact absurd hv (by simp [KK.cs])
theorem KLies.there {W : World} {B : Nat} {k : KK} (h : KLies W B k) : W.there B 0 2 := by
  obtain ⟨f, h0, h1⟩ := h
  intro j hj
  match j, hj with
  | 0, _ => exact ⟨h0 ▸ rfl, f _⟩
  | 1, _ => exact ⟨h1 ▸ rfl, f _⟩
theorem heap_setCells (b : Nat) : ∀ (vs : List Value) (o : Nat) (X : World) (g : Nat), g ≠ b → (X.setCells b o vs).heap[g]? = X.heap[g]?
  | [], _, _, _, _ => rfl
  | v :: vs, o, X, g, h => by
    rw [World.setCells, heap_setCells b vs _ _ g h]
    simp [World.setCell, Array.getElem?_modify, Ne.symm h]
theorem size_setCells {b : Nat} : ∀ (vs : List Value) (o : Nat) (W : World), (W.setCells b o vs).heap.size = W.heap.size
  | [], _, _ => rfl
  | v :: vs, o, W => by
    rw [World.setCells, size_setCells vs]
    simp [World.setCell]
theorem below_setCells {w : World} {b : Nat} (hb : w.heap.size ≤ b) : ∀ (vs : List Value) (o : Nat) (W : World), Below w.heap.size w W → Below w.heap.size w (W.setCells b o vs)
  | [], _, _, h => h
  | v :: vs, o, W, h => below_setCells hb vs _ _ (h.setCell (by exact hb) _)
/-- Blocks that are ours hold the keys that they held, and what was there ahead is as it was. -/
structure Kq (w X : World) (l : List (Nat × KK)) : Prop where
  below : Below w.heap.size w X
  all : ∀ q ∈ l, w.heap.size ≤ q.1 ∧ q.1 < X.heap.size ∧ KLies X q.1 q.2
theorem Kq.nil (w : World) : Kq w w [] := ⟨Below.refl _ _, fun q hq => by cases hq⟩
theorem Kq.on {w X X1 : World} {l : List (Nat × KK)} (h : Kq w X l) (hb : Below X.heap.size X X1) : Kq w X1 l :=
  ⟨h.below.trans (hb.mono h.below.size), fun q hq => ⟨(h.all q hq).1, Nat.lt_of_lt_of_le (h.all q hq).2.1 hb.size, (h.all q hq).2.2.block (hb.block _ (h.all q hq).2.1)⟩⟩
theorem Kq.drew {w X : World} {l : List (Nat × KK)} (h : Kq w X l) : Kq w X.drew l := ⟨h.below.drew, fun q hq => ⟨(h.all q hq).1, (h.all q hq).2.1, (h.all q hq).2.2⟩⟩
theorem Kq.get {w X : World} {l : List (Nat × KK)} (h : Kq w X l) (i : Nat) {b : Nat} {k : KK} (hi : l[i]? = some (b, k)) : KLies X b k := (h.all _ (List.mem_of_getElem? hi)).2.2
theorem Kq.new {w X : World} {l : List (Nat × KK)} (h : Kq w X l) (k : KK) : Kq w (X.alloc k.obj) (l ++ [(X.heap.size, k)]) := by
  have hb : Below X.heap.size X (X.alloc k.obj) := (Below.refl _ _).alloc (Nat.le_refl _) _
  refine ⟨(h.on hb).below, fun q hq => ?_⟩
  rcases List.mem_append.1 hq with hq | hq
  · exact (h.on hb).all q hq
  · obtain rfl : q = (X.heap.size, k) := by simpa using hq
    exact ⟨h.below.size, by simp, KLies.new X _ rfl k⟩
theorem Kq.of1 (w : World) (a : KK) : Kq w (w.alloc a.obj) [(w.heap.size, a)] := (Kq.nil w).new a
theorem Kq.of2 (w : World) (a b : KK) : Kq w ((w.alloc a.obj).alloc b.obj) [(w.heap.size, a), (w.heap.size + 1, b)] := by
  have := (Kq.of1 w a).new b
  simpa using this
theorem Kq.left {w X : World} {l m : List (Nat × KK)} (h : Kq w X (l ++ m)) : Kq w X l := ⟨h.below, fun q hq => h.all q (List.mem_append_left _ hq)⟩
theorem Kq.grown {w X X' : World} {l : List (Nat × KK)} {ob : Option Nat} (h : Kq w X l) (hg : X.grownBy X' ob) (ho : ∀ g, ob = some g → w.heap.size ≤ g ∧ ∀ q ∈ l, q.1 ≠ g) : Kq w X' l := by
  refine ⟨⟨hg.os.trans h.below.os, hg.tape.trans h.below.tape, hg.output.trans h.below.output, Nat.le_trans h.below.size hg.size, fun k hk => ?_⟩, fun q hq => ?_⟩
  · rw [hg.block k (Nat.lt_of_lt_of_le hk h.below.size) (fun e => by have := (ho k e.symm).1; omega)]
    exact h.below.block k hk
  · have hq0 := h.all q hq
    exact ⟨hq0.1, Nat.lt_of_lt_of_le hq0.2.1 hg.size, hq0.2.2.block (hg.block q.1 hq0.2.1 (fun e => (ho q.1 e.symm).2 q hq rfl))⟩
theorem KLies.setK {W : World} {B : Nat} {k u : KK} (h : KLies W B k) : KLies (W.setCells B 0 u.cs) B u := by
  obtain ⟨f, h0, h1⟩ := h
  refine ⟨fun j => ?_, ?_, ?_⟩
  · simp [KK.cs, World.setCells, go_sem, f]
  · simp [KK.cs, World.setCells, go_sem, h0, h1]
  · simp [KK.cs, World.setCells, go_sem, h0, h1]
theorem info23 : (Tryz.prog.info? 42).map (·.size) = some 2 := by kernel_rfl
theorem isrow23 : ∃ d, Tryz.prog.underlying 42 = some d ∧ d.isRow = true := ⟨_, Tryz.underlying42, rfl⟩
section
variable {ops : Array Oper} {rest : List Oper} {o : Oper} {a : Act} {w w0 : World} {Q : Exit → Act → World → Prop} {l : List (Nat × KK)} {x y : Operand} {b : Nat} {d u : KK}
theorem load23 (hw : Region.wanted o (yielded ops a.tmps) = true) (ho : o.op = .load 42 x) (hx : a.eval x = .pointer (some ⟨b, 0, none⟩)) (hc : KLies w b d) (h : wpList Tryz.prog ops Q rest (a.put o.dst d.agg) w) : wpList Tryz.prog ops Q (o :: rest) a w := by
  obtain ⟨t, hu, hd⟩ := isrow23
  refine BigFrame.wpList_want hw fun K hK => ?_
  exact wp_load_mid 42 x ho b 0 hx _ t hc.range hu hd info23 (hK _ _ h)
theorem load9 (hw : Region.wanted o (yielded ops a.tmps) = true) (ho : o.op = .load 9 x) (hx : a.eval x = .pointer (some ⟨b, 0, none⟩)) (hc : KLies w b d) (h : wpList Tryz.prog ops Q rest (a.put o.dst (.string d.s)) w) : wpList Tryz.prog ops Q (o :: rest) a w := by
  obtain ⟨-, h0, h1⟩ := hc
  refine BigFrame.wpList_want hw fun K hK => ?_
  unfold Oper.wp execOp
  simp only [ho, hx]
  simp [go_sem, h0, Tryz.isAgg9]
  exact hK _ _ h
theorem load3 (hw : Region.wanted o (yielded ops a.tmps) = true) (ho : o.op = .load 3 x) (hx : a.eval x = .pointer (some ⟨b, 1, none⟩)) (hc : KLies w b d) (h : wpList Tryz.prog ops Q rest (a.put o.dst (.int .i64 d.n)) w) : wpList Tryz.prog ops Q (o :: rest) a w := by
  obtain ⟨-, h0, h1⟩ := hc
  refine BigFrame.wpList_want hw fun K hK => ?_
  unfold Oper.wp execOp
  simp only [ho, hx]
  simp [go_sem, h1, Tryz.isAgg3]
  exact hK _ _ h
theorem kalloc23 (hw : Region.wanted o (yielded ops a.tmps) = true) (ho : o.op = .alloc 42) (hL : Kq w0 w l)
    (h : ∀ X, Kq w0 X (l ++ [(w.heap.size, zeroK)]) → Below w.heap.size w X → wpList Tryz.prog ops Q rest (a.put o.dst (.pointer (some ⟨w.heap.size, 0, none⟩))) X) : wpList Tryz.prog ops Q (o :: rest) a w := by
  refine BigFrame.wpList_want hw fun K hK => ?_
  have hP := hK _ _ (h _ (hL.new zeroK) ((Below.refl _ _).alloc (Nat.le_refl _) _))
  unfold Oper.wp execOp
  simp only [ho]
  simp [go_sem, Tryz.zeroValue42]
  exact hP
/-- A store into the last of our blocks. -/
theorem kstore23 {m : List (Nat × KK)} (hw : Region.wanted o (yielded ops a.tmps) = true) (ho : o.op = .store 42 x y) (hL : Kq w0 w m) (hx : a.eval x = .pointer (some ⟨b, 0, none⟩)) (hy : a.eval y = u.agg) (hm : m = l ++ [(b, d)]) (hne : ∀ q ∈ l, q.1 ≠ b)
    (h : ∀ X, Kq w0 X (l ++ [(b, u)]) → (∀ g, g ≠ b → X.heap[g]? = w.heap[g]?) → X.heap.size = w.heap.size → wpList Tryz.prog ops Q rest (a.put o.dst undef) X) : wpList Tryz.prog ops Q (o :: rest) a w := by
  subst hm
  refine BigFrame.wpList_want hw fun K hK => ?_
  have hb := hL.all (b, d) (by simp)
  refine wp_store_mid 42 x y ho _ 0 u.cs.toArray hx hy (KLies.there hb.2.2) info23 (by simp [KK.cs, Value.oneCell']) (hK _ _ (h _ ?_ (fun g hg => heap_setCells _ _ _ _ _ hg) (size_setCells _ _ _)))
  refine ⟨below_setCells hb.1 _ _ _ hL.below, fun q hq => ?_⟩
  rw [size_setCells]
  rcases List.mem_append.1 hq with hq | hq
  · have hq0 := hL.all q (List.mem_append_left _ hq)
    exact ⟨hq0.1, hq0.2.1, hq0.2.2.block (heap_setCells _ _ _ _ _ (hne q hq))⟩
  · obtain rfl : q = (b, u) := by simpa using hq
    exact ⟨hb.1, hb.2.1, KLies.setK hb.2.2⟩
end
/-! Rows of keys. -/
def flatK (l : List KK) : List Value := l.flatMap KK.cs
theorem flatK_append (l m : List KK) : flatK (l ++ m) = flatK l ++ flatK m := by unfold flatK; rw [List.flatMap_append]
theorem flatK_one (d : KK) : flatK [d] = d.cs := by simp [flatK]
theorem kcs_length (d : KK) : d.cs.length = 2 := rfl
theorem flatK_length : ∀ l : List KK, (flatK l).length = l.length * 2
  | [] => rfl
  | v :: l => by
    have : flatK (v :: l) = v.cs ++ flatK l := rfl
    rw [this, List.length_append, flatK_length l, List.length_cons, kcs_length]
    omega
theorem flatK_get : ∀ (l : List KK) (j t : Nat) (hj : j < l.length), t < 2 → (flatK l)[j * 2 + t]? = (l[j]).cs[t]?
  | [], j, t, hj, _ => by cases hj
  | v :: l, 0, t, _, ht => by
    have : flatK (v :: l) = v.cs ++ flatK l := rfl
    rw [this, List.getElem?_append_left (by rw [kcs_length]; omega)]
    simp
  | v :: l, j + 1, t, hj, ht => by
    have : flatK (v :: l) = v.cs ++ flatK l := rfl
    rw [this, List.getElem?_append_right (by rw [kcs_length]; omega)]
    have e : (j + 1) * 2 + t - v.cs.length = j * 2 + t := by rw [kcs_length]; omega
    rw [e, flatK_get l j t (by simpa using hj) ht]
    simp
theorem flatK_take (l : List KK) (k : Nat) : flatK (l.take k) = (flatK l).take (k * 2) := by
  have h := List.take_append_drop k l
  by_cases hk : k ≤ l.length
  · have e : flatK l = flatK (l.take k) ++ flatK (l.drop k) := by rw [← flatK_append, h]
    rw [e, List.take_append_of_le_length (by rw [flatK_length, List.length_take]; omega)]
    exact (List.take_of_length_le (by rw [flatK_length, List.length_take]; omega)).symm
  · rw [List.take_of_length_le (by omega), List.take_of_length_le (by rw [flatK_length]; omega)]
theorem flatK_cell : ∀ (l : List KK), ∀ u ∈ flatK l, u.oneCell' = true
  | [], u, hu => by cases hu
  | v :: l, u, hu => by
    have : flatK (v :: l) = v.cs ++ flatK l := rfl
    rw [this, List.mem_append] at hu
    rcases hu with hu | hu
    · simp [KK.cs] at hu
      rcases hu with rfl | rfl <;> rfl
    · exact flatK_cell l u hu
def RowsK (w : World) (b off : Nat) (l : List KK) : Prop := ∀ j, (h : j < l.length) → w.rangeAt b (off + j * 2) l[j].cs
theorem RowsK.keep {w w' : World} {b off : Nat} {l : List KK} (h : RowsK w b off l) (he : w'.heap[b]? = w.heap[b]?) : RowsK w' b off l := by
  intro j hj k v hv
  have := h j hj k v hv
  rw [← this]
  exact World.cell?_of_block he
theorem rowsK_iff {w : World} {b off : Nat} {l : List KK} : RowsK w b off l ↔ ∀ j u, (flatK l)[j]? = some u → w.cell? ⟨b, off + j, none⟩ = some u := by
  constructor
  · intro h j u hu
    have hlt : j < (flatK l).length := (List.getElem?_eq_some_iff.1 hu).1
    rw [flatK_length] at hlt
    have hd : j = j / 2 * 2 + j % 2 := by omega
    have hm : j % 2 < 2 := Nat.mod_lt _ (by omega)
    have := h (j / 2) (by omega) (j % 2) u
    rw [hd, flatK_get l (j / 2) (j % 2) (by omega) hm] at hu
    have h2 := this hu
    rw [Nat.add_assoc, ← hd] at h2
    exact h2
  · intro h j hj t u hu
    have ht : t < 2 := by
      have := (List.getElem?_eq_some_iff.1 hu).1
      rwa [kcs_length] at this
    rw [Nat.add_assoc]
    exact h _ u (by rw [flatK_get l j t hj ht]; exact hu)
/-- v is a slice whose elements are the keys l. -/
def ReadsK (w : World) (v : Value) (l : List KK) : Prop := (∃ A c, v = .slice A 0 c ∧ l = []) ∨ ∃ b off cap, v = .slice (some ⟨b, off, none⟩) l.length cap ∧ b < w.heap.size ∧ RowsK w b off l
theorem ReadsK.on {w w' : World} {v : Value} {l : List KK} (h : ReadsK w v l) (hb : Below w.heap.size w w') : ReadsK w' v l := by
  rcases h with h | ⟨b, off, cap, rfl, hlt, hc⟩
  · exact .inl h
  · exact .inr ⟨b, off, cap, rfl, Nat.lt_of_lt_of_le hlt hb.size, hc.keep (hb.block b hlt)⟩
theorem ReadsK.grown {w w' : World} {v : Value} {l : List KK} {ob : Option Nat} (h : ReadsK w v l) (hg : w.grownBy w' ob) (hne : ∀ b, v.ownBlock = some b → l ≠ [] → some b ≠ ob) : ReadsK w' v l := by
  rcases h with h | ⟨b, off, cap, rfl, hlt, hc⟩
  · exact .inl h
  · by_cases h0 : l = []
    · subst h0
      exact .inl ⟨_, _, rfl, rfl⟩
    · exact .inr ⟨b, off, cap, rfl, Nat.lt_of_lt_of_le hlt hg.size, hc.keep (hg.block b hlt (hne b rfl h0))⟩
/-- A row of the call's own that holds the keys l. -/
def OwnK (w : World) (base : Nat) (v : Value) (l : List KK) : Prop := w.ownsRow base 42 2 v l.length (flatK l)
theorem OwnK.nil (w : World) (base : Nat) : OwnK w base (.slice none 0 0) [] := ⟨rfl, .inl ⟨rfl, rfl⟩⟩
theorem OwnK.form {w : World} {base : Nat} {v : Value} {l : List KK} (h : OwnK w base v l) : (v = .slice none 0 0 ∧ l = []) ∨ ∃ g c, v = .slice (some ⟨g, 0, none⟩) l.length c ∧ l.length ≤ c ∧ base ≤ g ∧ g < w.heap.size ∧ RowsK w g 0 l := by
  rcases h.2 with ⟨rfl, h0⟩ | ⟨g, c, cur, rfl, h1, h2, h3, _, h5, h6⟩
  · exact .inl ⟨rfl, List.length_eq_zero_iff.1 h0⟩
  · refine .inr ⟨g, c, rfl, h3, h1, (Array.getElem?_eq_some_iff.1 h2).1, rowsK_iff.2 ?_⟩
    intro j u hu
    have hlt : j < l.length * 2 := by
      have := (List.getElem?_eq_some_iff.1 hu).1
      rwa [flatK_length] at this
    rw [← h6, List.getElem?_take_of_lt hlt] at hu
    rw [Nat.zero_add]
    simp [World.cell?, h2]
    simpa using hu
theorem OwnK.reads {w : World} {base : Nat} {v : Value} {l : List KK} (h : OwnK w base v l) : ReadsK w v l := by
  rcases h.form with ⟨rfl, rfl⟩ | ⟨g, c, rfl, _, _, h4, h5⟩
  · exact .inl ⟨none, 0, rfl, rfl⟩
  · exact .inr ⟨g, 0, c, rfl, h4, h5⟩
theorem OwnK.mono {w : World} {base base' : Nat} {v : Value} {l : List KK} (h : OwnK w base v l) (hb : base' ≤ base) : OwnK w base' v l :=
  ⟨h.1, h.2.imp id fun ⟨g, cap, cur, h1, h2, h3⟩ => ⟨g, cap, cur, h1, Nat.le_trans hb h2, h3⟩⟩
theorem OwnK.own {w : World} {base : Nat} {v : Value} {l : List KK} (h : OwnK w base v l) : ∀ g, v.ownBlock = some g → base ≤ g ∧ g < w.heap.size := by
  intro g hg
  rcases h.form with ⟨rfl, _⟩ | ⟨g', c, rfl, _, h3, h4, _⟩
  · simp [Value.ownBlock] at hg
  · have e : g' = g := by simpa [Value.ownBlock] using hg
    subst e
    exact ⟨h3, h4⟩
theorem OwnK.block {w w' : World} {base : Nat} {v : Value} {l : List KK} (h : OwnK w base v l) (he : ∀ g, v.ownBlock = some g → w'.heap[g]? = w.heap[g]?) : OwnK w' base v l := by
  refine ⟨h.1, ?_⟩
  rcases h.2 with h | ⟨g', c', cur, rfl, h1, h2, h3⟩
  · exact .inl h
  · exact .inr ⟨_, c', cur, rfl, h1, (he g' rfl).trans h2, h3⟩
theorem OwnK.on {w w' : World} {base : Nat} {v : Value} {l : List KK} (h : OwnK w base v l) (hb : Below w.heap.size w w') : OwnK w' base v l := h.block (fun g hg => hb.block g (h.own g hg).2)
/-- What is left of a row that is cut short. -/
theorem OwnK.take {w : World} {base g c n : Nat} {l : List KK} (h : OwnK w base (.slice (some ⟨g, 0, none⟩) n c) l) (k : Nat) (hk : k ≤ l.length) : OwnK w base (.slice (some ⟨g, 0, none⟩) k c) (l.take k) := by
  rcases h.2 with ⟨h, _⟩ | ⟨g', c', cur, e, h1, h2, h3, h4, h5, h6⟩
  · cases h
  · cases e
    have hl : (l.take k).length = k := by rw [List.length_take]; omega
    refine ⟨by rw [flatK_length], .inr ⟨g, c, cur, by rw [hl], h1, h2, by rw [hl]; omega, h4, h5, ?_⟩⟩
    rw [hl, flatK_take, ← h6, List.take_take]
    congr 1
    omega
theorem info23w : (Tryz.prog.info? 42).map (fun i => (i.zero, i.size, i.bytes)) = some (some zeroK.agg, 2, 24) := by kernel_rfl
section
variable {ops : Array Oper} {rest : List Oper} {o : Oper} {a : Act} {w : World} {Q : Exit → Act → World → Prop} {s x : Operand} {base : Nat} {l m : List KK} {v u : Value}
/-- append of a row of keys onto one's own. -/
theorem append_k (hgd : o.guard = none) (ho : o.op = .call { callee := .builtin .append, args := #[s, x], argTypes := #[199, 199] }) (hs : a.eval s = v) (hx : a.eval x = u) (hown : OwnK w base v l) (hu : ReadsK w u m) (hcap : ∀ c, u = .slice none 0 c → c = 0)
    (hn : l.length + m.length ≤ 6000000) (hbase : base ≤ w.heap.size)
    (h : ∀ v' w', OwnK w' base v' (l ++ m) → w.grownBy w' v.ownBlock → wpList Tryz.prog ops Q rest (a.put o.dst v') w') : wpList Tryz.prog ops Q (o :: rest) a w := by
  obtain ⟨i0, hi, hz0, hz1, hz2⟩ := info_parts info23w
  have main : ∀ ad c, u = .slice (some ad) m.length c → (∀ j u, (flatK m)[j]? = some u → w.cell? (ad.add j) = some u) → wpList Tryz.prog ops Q (o :: rest) a w := fun ad c hu' hc =>
    wpList_append_own w hgd s x 199 ho base 42 i0 _ 2 24 Tryz.underlying199 hi hz0 hz1 hz2 rfl (by decide) v l.length (flatK l) hs hown ad m.length c (flatK m) (hx.trans hu') (flatK_length m) hc (flatK_cell m)
      (by unfold maxLen; omega) (by omega) hbase fun v' w' h1 h2 _ => h v' w' (by unfold OwnK; rw [flatK_append, List.length_append]; exact h1) h2
  rcases hu with ⟨A, c, rfl, rfl⟩ | ⟨b, off, cap, rfl, hlt, hc⟩
  · cases A with
    | none =>
      obtain rfl := hcap c rfl
      refine wpList_append_own_none hgd s x 199 ho base 42 i0 2 Tryz.underlying199 hi v l.length (flatK l) hs hown hx ?_
      exact h v w (by simpa using hown) ⟨rfl, rfl, rfl, Nat.le_refl _, fun _ _ _ => rfl⟩
    | some ad => exact main ad c rfl (fun j u hu => by simp [flatK] at hu)
  · exact main _ cap rfl (fun j u hu => by
      have := rowsK_iff.1 hc j u hu
      by_cases e : j = 0
      · subst e; simpa [Addr.add] using this
      · simpa [Addr.add, e] using this)
theorem wp_build1 {K : Act → World → Prop} {d : KK} (ho : o.op = .buildSlice 199 1 #[(0, x)]) (hx : a.eval x = d.agg) (h : K (a.put o.dst (.slice (some ⟨w.heap.size, 0, none⟩) 1 1)) (w.alloc d.obj)) : o.wp Tryz.prog a w K Q := by
  obtain ⟨i0, hi, hz0, hz1, hz2⟩ := info_parts info23w
  refine wp_buildSlice 199 42 1 _ ho #[.string d.s, .int .i64 d.n] i0 _ Tryz.underlying199 hi hz0 (by rw [hz1]; decide) (by rw [hz1]; decide) ?_ h
  rw [hz1]
  simp only [List.map_toArray, List.map_cons, List.map_nil, hx]
  kernel_rfl
/-- A slice of one key. -/
theorem kbuild {d : KK} (hw : Region.wanted o (yielded ops a.tmps) = true) (ho : o.op = .buildSlice 199 1 #[(0, x)]) (hx : a.eval x = d.agg)
    (h : ∀ X, ReadsK X (.slice (some ⟨w.heap.size, 0, none⟩) 1 1) [d] → X.heap.size = w.heap.size + 1 → Below w.heap.size w X → wpList Tryz.prog ops Q rest (a.put o.dst (.slice (some ⟨w.heap.size, 0, none⟩) 1 1)) X) : wpList Tryz.prog ops Q (o :: rest) a w := by
  refine BigFrame.wpList_want hw fun K hK => ?_
  refine wp_build1 ho hx (hK _ _ (h _ ?_ (by simp) ((Below.refl _ _).alloc (Nat.le_refl _) _)))
  refine .inr ⟨w.heap.size, 0, 1, rfl, by simp, fun j hj => ?_⟩
  obtain rfl : j = 0 := by simpa using hj
  exact KLies.range (KLies.new w _ rfl d)
/-- An empty slice, not nil. -/
theorem kempty (hw : Region.wanted o (yielded ops a.tmps) = true) (ho : o.op = .buildSlice 199 0 #[])
    (h : ∀ X, OwnK X w.heap.size (.slice (some ⟨w.heap.size, 0, none⟩) 0 0) [] → X.heap.size = w.heap.size + 1 → Below w.heap.size w X → wpList Tryz.prog ops Q rest (a.put o.dst (.slice (some ⟨w.heap.size, 0, none⟩) 0 0)) X) : wpList Tryz.prog ops Q (o :: rest) a w := by
  refine BigFrame.wpList_want hw fun K hK => ?_
  have hP := hK _ _ (h (w.alloc (.cells #[] 42)) ⟨rfl, .inr ⟨w.heap.size, 0, #[], rfl, Nat.le_refl _, World.alloc_heap_new w _, Nat.le_refl _, by unfold maxLen; omega, rfl, rfl⟩⟩ (by simp) ((Below.refl _ _).alloc (Nat.le_refl _) _))
  unfold Oper.wp execOp
  simp only [ho]
  have e : (Instr.buildSlice 199 0 #[]).run Tryz.prog w = .ok (.slice (some ⟨w.heap.size, 0, none⟩) 0 0) (w.alloc (.cells #[] 42)) := by kernel_rfl
  simp [e]
  exact hP
end
section
variable {md : Region.Mode} {ops : Array Oper} {Q : Exit → Act → World → Prop} {S : World → Prop} {w : World} {fuel : Nat} {listed : Array Bool} {a : Act} {o : Oper}
theorem gpure (i : Nat) (dst : Option Tmp) (v : Value) (hi : ops[i]? = some o) (hs : Region.noSelect ops = true) (hf : Region.free md ops listed i = true) (hr : (Region.ready md ops listed).contains i = true)
    (hQ : ∀ c a w, Q (.panic c) (a.put dst v) w → Q (.panic c) a w) (hd : o.dst = dst) (hw : Region.wanted o (yielded ops a.tmps) = true) (hy : ∀ w, (execOp a.eval o).run Tryz.prog w = .ok (.value v) w)
    (hS : S w) (h : wpAnyH Tryz.prog md ops Q S fuel (listed.setIfInBounds i true) (a.put dst v) w) : wpAnyH Tryz.prog md ops Q S (fuel + 1) listed a w := by
  subst hd
  exact wpAnyH_take hi hs hf hr hQ (Or.inl ⟨hw, fun X _ => hy X⟩) hS h
theorem gskip (i : Nat) (dst : Option Tmp) (hi : ops[i]? = some o) (hs : Region.noSelect ops = true) (hf : Region.free md ops listed i = true) (hr : (Region.ready md ops listed).contains i = true)
    (hQ : ∀ c a w, Q (.panic c) (a.put dst undef) w → Q (.panic c) a w) (hd : o.dst = dst) (hw : Region.wanted o (yielded ops a.tmps) = false)
    (hS : S w) (h : wpAnyH Tryz.prog md ops Q S fuel (listed.setIfInBounds i true) (a.put dst undef) w) : wpAnyH Tryz.prog md ops Q S (fuel + 1) listed a w := by
  subst hd
  exact wpAnyH_take hi hs hf hr hQ (Or.inr ⟨hw, rfl⟩) hS h
theorem gload (i : Nat) (dst : Option Tmp) {x : Operand} {b p : Nat} {d : KK} (hi : ops[i]? = some o) (hs : Region.noSelect ops = true) (hf : Region.free md ops listed i = true) (hr : (Region.ready md ops listed).contains i = true)
    (hQ : ∀ c a w, Q (.panic c) (a.put dst d.agg) w → Q (.panic c) a w) (hd : o.dst = dst) (hw : Region.wanted o (yielded ops a.tmps) = true) (ho : o.op = .load 42 x) (hx : a.eval x = .pointer (some ⟨b, p, none⟩)) (hl : ∀ X, S X → X.rangeAt b p d.cs)
    (hS : S w) (h : wpAnyH Tryz.prog md ops Q S fuel (listed.setIfInBounds i true) (a.put dst d.agg) w) : wpAnyH Tryz.prog md ops Q S (fuel + 1) listed a w := by
  subst hd
  obtain ⟨t, hu, hd⟩ := isrow23
  exact wpAnyH_take hi hs hf hr hQ (yieldsIf_load_mid hw 42 x ho b p hx d.cs t hl hu hd info23) hS h
theorem index24 (b off n cap j : Nat) (hj : j < n) (w : World) : (Instr.indexAt 199 (.slice (some ⟨b, off, none⟩) n cap) (.int .i64 j)).run Tryz.prog w = .ok (.pointer (some ⟨b, off + j * 2, none⟩)) w := by
  rw [run_indexAt_slice (h := by kernel_rfl), if_pos ⟨by omega, by omega⟩]
  have e : (sizeOf (Tryz.prog.elem 199)).run Tryz.prog w = .ok 2 w := by kernel_rfl
  rw [e]
  have e2 : (Addr.add ⟨b, off, none⟩ ((j : Int).toNat * 2)) = ⟨b, off + j * 2, none⟩ := by
    unfold Addr.add
    by_cases h : j = 0
    · subst h; simp
    · have h2 : ¬ j * 2 = 0 := by omega
      simp [h2]
  show Result.ok (Value.pointer (some (Addr.add ⟨b, off, none⟩ ((j : Int).toNat * 2)))) w = _
  rw [e2]
theorem gindex (i : Nat) (dst : Option Tmp) {x ix : Operand} {b off n cap : Nat} (j : Nat) (hi : ops[i]? = some o) (hs : Region.noSelect ops = true) (hf : Region.free md ops listed i = true) (hr : (Region.ready md ops listed).contains i = true)
    (hQ : ∀ c a w, Q (.panic c) (a.put dst (.pointer (some ⟨b, off + j * 2, none⟩))) w → Q (.panic c) a w) (hd : o.dst = dst) (hw : Region.wanted o (yielded ops a.tmps) = true) (ho : o.op = .indexAddr 199 x ix)
    (hx : a.eval x = .slice (some ⟨b, off, none⟩) n cap) (hix : a.eval ix = .int .i64 j) (hj : j < n)
    (hS : S w) (h : wpAnyH Tryz.prog md ops Q S fuel (listed.setIfInBounds i true) (a.put dst (.pointer (some ⟨b, off + j * 2, none⟩))) w) : wpAnyH Tryz.prog md ops Q S (fuel + 1) listed a w := by
  refine gpure i dst _ hi hs hf hr hQ hd hw (fun W => ?_) hS h
  unfold execOp
  simp only [ho, hx, hix]
  have := index24 b off n cap j hj W
  simp [this]
theorem gbin (i : Nat) (dst : Option Tmp) {b : BinOp} {t t2 : TypeId} {x y : Operand} {vx vy : Value} (v : Value) (hi : ops[i]? = some o) (hs : Region.noSelect ops = true) (hf : Region.free md ops listed i = true) (hr : (Region.ready md ops listed).contains i = true)
    (hQ : ∀ c a w, Q (.panic c) (a.put dst v) w → Q (.panic c) a w) (hd : o.dst = dst) (hw : Region.wanted o (yielded ops a.tmps) = true) (ho : o.op = .binOp b t x y t2) (hx : a.eval x = vx) (hy : a.eval y = vy) (hrun : ∀ w, (binOp b t vx vy).run Tryz.prog w = .ok v w) (heq : ∀ w, (eqGuard b t x y vx vy).run Tryz.prog w = .ok () w)
    (hS : S w) (h : wpAnyH Tryz.prog md ops Q S fuel (listed.setIfInBounds i true) (a.put dst v) w) : wpAnyH Tryz.prog md ops Q S (fuel + 1) listed a w := by
  refine gpure i dst v hi hs hf hr hQ hd hw (fun W => ?_) hS h
  unfold execOp
  simp only [ho, hx, hy]
  simp [hrun, heq]
theorem gcall (i : Nat) (dst : Option Tmp) {f : FuncId} {args : Array Value} {V : Value} {rs : List Nat} (hi : ops[i]? = some o) (hd : o.dst = dst) (hw : Region.wanted o (yielded ops a.tmps) = true)
    (he : (execOp a.eval o).run Tryz.prog w = .ok (.enter f args) w) (hC : Calls Tryz.prog f args w fun e w' => e = .returned V ∧ Below w.heap.size w w') (hon : ∀ X, Below w.heap.size w X → S X)
    (h : ∀ X, Below w.heap.size w X → wpAnyH Tryz.prog md ops Q S fuel (listed.setIfInBounds i true) (a.put dst V) X) (hs : AllReadyH Tryz.prog md ops Q S fuel listed a w rs) : AllReadyH Tryz.prog md ops Q S fuel listed a w (i :: rs) := by
  subst hd
  refine AllReadyH.cons hi (fun K hK => ?_) hs
  rw [if_pos hw]
  unfold Oper.wp
  rw [he, Oper.upon_enter]
  refine hC.mono ?_
  rintro _ X ⟨rfl, hb⟩
  exact hK.out _ _ (hon X hb) (fun _ => h X hb)
theorem gbuild (i : Nat) (dst : Option Tmp) {x : Operand} {d : KK} {rs : List Nat} (hi : ops[i]? = some o) (hd : o.dst = dst) (hw : Region.wanted o (yielded ops a.tmps) = true) (ho : o.op = .buildSlice 199 1 #[(0, x)]) (hx : a.eval x = d.agg) (hon : ∀ X, Below w.heap.size w X → S X)
    (h : ∀ (X : World) (B : Nat), w.heap.size ≤ B → ReadsK X (.slice (some ⟨B, 0, none⟩) 1 1) [d] → Below w.heap.size w X → wpAnyH Tryz.prog md ops Q S fuel (listed.setIfInBounds i true) (a.put dst (.slice (some ⟨B, 0, none⟩) 1 1)) X) (hs : AllReadyH Tryz.prog md ops Q S fuel listed a w rs) : AllReadyH Tryz.prog md ops Q S fuel listed a w (i :: rs) := by
  subst hd
  refine AllReadyH.cons hi (fun K hK => ?_) hs
  rw [if_pos hw]
  have hb : Below w.heap.size w (w.alloc d.obj) := (Below.refl _ _).alloc (Nat.le_refl _) _
  refine wp_build1 ho hx (hK.out _ _ (hon _ hb) (fun _ => h _ _ (Nat.le_refl _) ?_ hb))
  refine .inr ⟨w.heap.size, 0, 1, rfl, by simp, fun j hj => ?_⟩
  obtain rfl : j = 0 := by simpa using hj
  exact KLies.range (KLies.new w _ rfl d)
theorem wp_append_k {K : Act → World → Prop} {s x : Operand} {base : Nat} {l m : List KK} {v u : Value} (ho : o.op = .call { callee := .builtin .append, args := #[s, x], argTypes := #[199, 199] }) (hs : a.eval s = v) (hx : a.eval x = u) (hown : OwnK w base v l) (hu : ReadsK w u m) (hcap : ∀ c, u = .slice none 0 c → c = 0)
    (hn : l.length + m.length ≤ 6000000) (hbase : base ≤ w.heap.size)
    (h : ∀ v' w', OwnK w' base v' (l ++ m) → w.grownBy w' v.ownBlock → K (a.put o.dst v') w') : o.wp Tryz.prog a w K Q := by
  obtain ⟨i0, hi, hz0, hz1, hz2⟩ := info_parts info23w
  have main : ∀ ad c, u = .slice (some ad) m.length c → (∀ j u, (flatK m)[j]? = some u → w.cell? (ad.add j) = some u) → o.wp Tryz.prog a w K Q := fun ad c hu' hc =>
    wp_append_own w s x 199 ho base 42 i0 _ 2 24 Tryz.underlying199 hi hz0 hz1 hz2 rfl (by decide) v l.length (flatK l) hs hown ad m.length c (flatK m) (hx.trans hu') (flatK_length m) hc (flatK_cell m)
      (by unfold maxLen; omega) (by omega) hbase fun v' w' h1 h2 _ => h v' w' (by unfold OwnK; rw [flatK_append, List.length_append]; exact h1) h2
  rcases hu with ⟨A, c, rfl, rfl⟩ | ⟨b, off, cap, rfl, hlt, hc⟩
  · cases A with
    | none =>
      obtain rfl := hcap c rfl
      have hrun := run_append_owned_none (P := Tryz.prog) (w := w) base 199 o.type 42 i0 2 Tryz.underlying199 hi v l.length (flatK l) hown
      have hK := h v w (by simpa using hown) ⟨rfl, rfl, rfl, Nat.le_refl _, fun _ _ _ => rfl⟩
      unfold Oper.wp
      simp [execOp, ho, resolve, invoke, builtin, hs, hx, hrun, Result.andThen]
      exact hK
    | some ad => exact main ad c rfl (fun j u hu => by simp [flatK] at hu)
  · exact main _ cap rfl (fun j u hu => by
      have := rowsK_iff.1 hc j u hu
      by_cases e : j = 0
      · subst e; simpa [Addr.add] using this
      · simpa [Addr.add, e] using this)
theorem gappend (i : Nat) (dst : Option Tmp) {rs : List Nat} {s x : Operand} {base : Nat} {l m : List KK} {v u : Value} (hi : ops[i]? = some o) (hd : o.dst = dst) (hw : Region.wanted o (yielded ops a.tmps) = true) (ho : o.op = .call { callee := .builtin .append, args := #[s, x], argTypes := #[199, 199] })
    (hs : a.eval s = v) (hx : a.eval x = u) (hown : OwnK w base v l) (hu : ReadsK w u m) (hcap : ∀ c, u = .slice none 0 c → c = 0) (hn : l.length + m.length ≤ 6000000) (hbase : base ≤ w.heap.size) (hon : ∀ X, w.grownBy X v.ownBlock → S X)
    (h : ∀ v' X, OwnK X base v' (l ++ m) → w.grownBy X v.ownBlock → wpAnyH Tryz.prog md ops Q S fuel (listed.setIfInBounds i true) (a.put dst v') X) (hr : AllReadyH Tryz.prog md ops Q S fuel listed a w rs) : AllReadyH Tryz.prog md ops Q S fuel listed a w (i :: rs) := by
  subst hd
  refine AllReadyH.cons hi (fun K hK => ?_) hr
  rw [if_pos hw]
  exact wp_append_k ho hs hx hown hu hcap hn hbase (fun v' w' h1 h2 => hK.out _ _ (hon _ h2) (fun _ => h v' w' h1 h2))
end
theorem sub1 (m : Nat) (hm : m < 100000) (w : World) : (binOp .sub 3 (.int .i64 ((m + 1 : Nat) : Int)) (.int .i64 1)).run Tryz.prog w = .ok (.int .i64 (m : Int)) w := by
  have e : IntKind.i64.wrap (m : Int) = (m : Int) := by
    rw [IntKind.wrap_i64]
    omega
  simp [binOp, go_sem, e]
section
variable {ops : Array Oper} {rest : List Oper} {o : Oper} {a : Act} {w : World} {Q : Exit → Act → World → Prop} {x ix : Operand} {b off n cap j p : Nat} {d : KK}
/-- In a region in order: the address of an element, and the element. -/
theorem kindex (hw : Region.wanted o (yielded ops a.tmps) = true) (ho : o.op = .indexAddr 199 x ix) (hx : a.eval x = .slice (some ⟨b, off, none⟩) n cap) (hix : a.eval ix = .int .i64 (j : Nat)) (hj : j < n) (h : wpList Tryz.prog ops Q rest (a.put o.dst (.pointer (some ⟨b, off + j * 2, none⟩))) w) : wpList Tryz.prog ops Q (o :: rest) a w := by
  refine BigFrame.wpList_want hw fun K hK => ?_
  unfold Oper.wp execOp
  simp only [ho, hx, hix]
  simp [index24 b off n cap j hj w]
  exact hK _ _ h
theorem kread (hw : Region.wanted o (yielded ops a.tmps) = true) (ho : o.op = .load 42 x) (hx : a.eval x = .pointer (some ⟨b, p, none⟩)) (hc : w.rangeAt b p d.cs) (h : wpList Tryz.prog ops Q rest (a.put o.dst d.agg) w) : wpList Tryz.prog ops Q (o :: rest) a w := by
  obtain ⟨t, hu, hd⟩ := isrow23
  refine BigFrame.wpList_want hw fun K hK => ?_
  exact wp_load_mid 42 x ho b p hx _ t hc hu hd info23 (hK _ _ h)
end
