import Derived.Test.YtedgaaaloigpdaaDoorDp
import Derived.Laws.AppendOwnNone
import Derived.OwnWalk
import Derived.Great.BuildSlice
namespace Go.Proofs.YtedgaaaloigpdaaDoor
open Go Go.Proofs Go.RowKit FM
set_option linter.unusedSimpArgs false
set_option linter.unusedVariables false
section
variable {md : Region.Mode} {ops : Array Oper} {Q : Exit → Act → World → Prop} {S : World → Prop} {w : World} {fuel : Nat} {listed : Array Bool} {a : Act} {o : Oper}
theorem gpure (i : Nat) (dst : Option Tmp) (v : Value) (hi : ops[i]? = some o) (hs : Region.noSelect ops = true) (hf : Region.free md ops listed i = true) (hr : (Region.ready md ops listed).contains i = true)
    (hQ : ∀ c a w, Q (.panic c) (a.put dst v) w → Q (.panic c) a w) (hd : o.dst = dst) (hw : Region.wanted o (yielded ops a.tmps) = true) (hy : ∀ w, (execOp a.eval o).run Tryd.prog w = .ok (.value v) w)
    (hS : S w) (h : wpAnyH Tryd.prog md ops Q S fuel (listed.setIfInBounds i true) (a.put dst v) w) : wpAnyH Tryd.prog md ops Q S (fuel + 1) listed a w := by
  subst hd
  exact wpAnyH_take hi hs hf hr hQ (Or.inl ⟨hw, fun X _ => hy X⟩) hS h
/-- A descriptor that S says lies at a place is loaded. -/
theorem gload (i : Nat) (dst : Option Tmp) {x : Operand} {b p : Nat} {d : DD} (hi : ops[i]? = some o) (hs : Region.noSelect ops = true) (hf : Region.free md ops listed i = true) (hr : (Region.ready md ops listed).contains i = true)
    (hQ : ∀ c a w, Q (.panic c) (a.put dst d.agg) w → Q (.panic c) a w) (hd : o.dst = dst) (hw : Region.wanted o (yielded ops a.tmps) = true) (ho : o.op = .load 27 x) (hx : a.eval x = .pointer (some ⟨b, p, none⟩)) (hl : ∀ X, S X → X.rangeAt b p d.cs)
    (hS : S w) (h : wpAnyH Tryd.prog md ops Q S fuel (listed.setIfInBounds i true) (a.put dst d.agg) w) : wpAnyH Tryd.prog md ops Q S (fuel + 1) listed a w := by
  subst hd
  obtain ⟨t, hu, hd⟩ := isrow27
  exact wpAnyH_take hi hs hf hr hQ (yieldsIf_load_mid hw 27 x ho b p hx d.cs t hl hu hd info27) hS h
theorem index48 (b off n cap j : Nat) (hj : j < n) (w : World) : (Instr.indexAt 48 (.slice (some ⟨b, off, none⟩) n cap) (.int .i64 j)).run Tryd.prog w = .ok (.pointer (some ⟨b, off + j * 18, none⟩)) w := by
  rw [run_indexAt_slice (h := by kernel_rfl), if_pos ⟨by omega, by omega⟩]
  have e : (sizeOf (Tryd.prog.elem 48)).run Tryd.prog w = .ok 18 w := by kernel_rfl
  rw [e]
  have e2 : (Addr.add ⟨b, off, none⟩ ((j : Int).toNat * 18)) = ⟨b, off + j * 18, none⟩ := by
    unfold Addr.add
    by_cases h : j = 0
    · subst h; simp
    · have h2 : ¬ j * 18 = 0 := by omega
      simp [h2]
  show Result.ok (Value.pointer (some (Addr.add ⟨b, off, none⟩ ((j : Int).toNat * 18)))) w = _
  rw [e2]
theorem gindex (i : Nat) (dst : Option Tmp) {x ix : Operand} {b off n cap : Nat} (j : Nat) (hi : ops[i]? = some o) (hs : Region.noSelect ops = true) (hf : Region.free md ops listed i = true) (hr : (Region.ready md ops listed).contains i = true)
    (hQ : ∀ c a w, Q (.panic c) (a.put dst (.pointer (some ⟨b, off + j * 18, none⟩))) w → Q (.panic c) a w) (hd : o.dst = dst) (hw : Region.wanted o (yielded ops a.tmps) = true) (ho : o.op = .indexAddr 48 x ix)
    (hx : a.eval x = .slice (some ⟨b, off, none⟩) n cap) (hix : a.eval ix = .int .i64 j) (hj : j < n)
    (hS : S w) (h : wpAnyH Tryd.prog md ops Q S fuel (listed.setIfInBounds i true) (a.put dst (.pointer (some ⟨b, off + j * 18, none⟩))) w) : wpAnyH Tryd.prog md ops Q S (fuel + 1) listed a w := by
  refine gpure i dst _ hi hs hf hr hQ hd hw (fun W => ?_) hS h
  unfold execOp
  simp only [ho, hx, hix]
  have := index48 b off n cap j hj W
  simp [this]
theorem gcall (i : Nat) (dst : Option Tmp) {f : FuncId} {args : Array Value} {V : Value} {rs : List Nat} (hi : ops[i]? = some o) (hd : o.dst = dst) (hw : Region.wanted o (yielded ops a.tmps) = true)
    (he : (execOp a.eval o).run Tryd.prog w = .ok (.enter f args) w) (hC : Calls Tryd.prog f args w fun e w' => e = .returned V ∧ Below w.heap.size w w') (hon : ∀ X, Below w.heap.size w X → S X)
    (h : ∀ X, Below w.heap.size w X → wpAnyH Tryd.prog md ops Q S fuel (listed.setIfInBounds i true) (a.put dst V) X) (hs : AllReadyH Tryd.prog md ops Q S fuel listed a w rs) : AllReadyH Tryd.prog md ops Q S fuel listed a w (i :: rs) := by
  subst hd
  refine AllReadyH.cons hi (fun K hK => ?_) hs
  rw [if_pos hw]
  unfold Oper.wp
  rw [he, Oper.upon_enter]
  refine hC.mono ?_
  rintro _ X ⟨rfl, hb⟩
  exact hK.out _ _ (hon X hb) (fun _ => h X hb)
theorem galloc (i : Nat) (dst : Option Tmp) {rs : List Nat} (hi : ops[i]? = some o) (hd : o.dst = dst) (hw : Region.wanted o (yielded ops a.tmps) = true) (ho : o.op = .alloc 27) (hon : S (w.alloc (PB.D zeroD).obj))
    (h : ∀ (Y : World) (B : Nat), B = w.heap.size → Y = w.alloc (PB.D zeroD).obj → wpAnyH Tryd.prog md ops Q S fuel (listed.setIfInBounds i true) (a.put dst (.pointer (some ⟨B, 0, none⟩))) Y) (hs : AllReadyH Tryd.prog md ops Q S fuel listed a w rs) : AllReadyH Tryd.prog md ops Q S fuel listed a w (i :: rs) := by
  subst hd
  refine AllReadyH.cons hi (fun K hK => ?_) hs
  rw [if_pos hw]
  have hP := hK.out _ _ hon (fun _ => h _ _ rfl rfl)
  unfold Oper.wp execOp
  simp only [ho]
  simp [go_sem, Tryd.zeroValue27]
  exact hP
theorem gstore (i : Nat) {rs : List Nat} {x y : Operand} {b : Nat} {d u : DD} (hi : ops[i]? = some o) (hd : o.dst = none) (hw : Region.wanted o (yielded ops a.tmps) = true) (ho : o.op = .store 27 x y)
    (hx : a.eval x = .pointer (some ⟨b, 0, none⟩)) (hy : a.eval y = u.agg) (hl : Lies w b d) (hon : S (w.setCells b 0 u.cs))
    (h : ∀ Y, Y = w.setCells b 0 u.cs → wpAnyH Tryd.prog md ops Q S fuel (listed.setIfInBounds i true) (a.put none undef) Y) (hs : AllReadyH Tryd.prog md ops Q S fuel listed a w rs) : AllReadyH Tryd.prog md ops Q S fuel listed a w (i :: rs) := by
  refine AllReadyH.cons hi (fun K hK => ?_) hs
  rw [if_pos hw]
  refine wp_store_mid 27 x y ho _ 0 u.cs.toArray hx hy (Lies.there hl) info27 (by simp [DD.cs, Value.oneCell']) ?_
  rw [hd]
  exact hK.out _ _ hon (fun _ => h _ rfl)
end
theorem rem2 (j : Nat) : ∃ r : Int, ∀ w : World, (binOp .rem 3 (.int .i64 j) (.int .i64 2)).run Tryd.prog w = .ok (.int .i64 r) w := by
  refine ⟨(j : Int).tmod 2, fun w => ?_⟩
  simp [binOp, go_sem]
/-- A row of descriptors in a block. -/
def RowsD (w : World) (b off : Nat) (l : List DD) : Prop := ∀ j, (h : j < l.length) → w.rangeAt b (off + j * 18) l[j].cs
theorem RowsD.keep {w w' : World} {b off : Nat} {l : List DD} (h : RowsD w b off l) (he : w'.heap[b]? = w.heap[b]?) : RowsD w' b off l := by
  intro j hj k v hv
  have := h j hj k v hv
  rw [← this]
  exact World.cell?_of_block he
/-- v is a slice whose elements are the descriptors l. -/
def ReadsD (w : World) (v : Value) (l : List DD) : Prop := (∃ A c, v = .slice A 0 c ∧ l = []) ∨ ∃ b off cap, v = .slice (some ⟨b, off, none⟩) l.length cap ∧ b < w.heap.size ∧ RowsD w b off l
theorem Kp.left {w X : World} {l m : List (Nat × PB)} (h : Kp w X (l ++ m)) : Kp w X l :=
  ⟨h.below, fun q hq => h.all q (List.mem_append_left _ hq), by
    have := h.nd
    rw [List.map_append, List.nodup_append] at this
    exact this.1⟩
theorem gbin {md : Region.Mode} {ops : Array Oper} {Q : Exit → Act → World → Prop} {S : World → Prop} {w : World} {fuel : Nat} {listed : Array Bool} {a : Act} {o : Oper} (i : Nat) (dst : Option Tmp) {b : BinOp} {t t2 : TypeId} {x y : Operand} {vx vy : Value} (v : Value) (hi : ops[i]? = some o) (hs : Region.noSelect ops = true) (hf : Region.free md ops listed i = true) (hr : (Region.ready md ops listed).contains i = true)
    (hQ : ∀ c a w, Q (.panic c) (a.put dst v) w → Q (.panic c) a w) (hd : o.dst = dst) (hw : Region.wanted o (yielded ops a.tmps) = true) (ho : o.op = .binOp b t x y t2) (hx : a.eval x = vx) (hy : a.eval y = vy) (hrun : ∀ w, (binOp b t vx vy).run Tryd.prog w = .ok v w) (heq : ∀ w, (eqGuard b t x y vx vy).run Tryd.prog w = .ok () w)
    (hS : S w) (h : wpAnyH Tryd.prog md ops Q S fuel (listed.setIfInBounds i true) (a.put dst v) w) : wpAnyH Tryd.prog md ops Q S (fuel + 1) listed a w := by
  refine gpure i dst v hi hs hf hr hQ hd hw (fun W => ?_) hS h
  unfold execOp
  simp only [ho, hx, hy]
  simp [hrun, heq]

def flatD (l : List DD) : List Value := l.flatMap DD.cs
theorem flatD_append (l m : List DD) : flatD (l ++ m) = flatD l ++ flatD m := by unfold flatD; rw [List.flatMap_append]
theorem flatD_one (d : DD) : flatD [d] = d.cs := by simp [flatD]
theorem cs_length (d : DD) : d.cs.length = 18 := rfl
theorem flatD_length : ∀ l : List DD, (flatD l).length = l.length * 18
  | [] => rfl
  | v :: l => by
    have : flatD (v :: l) = v.cs ++ flatD l := rfl
    rw [this, List.length_append, flatD_length l, List.length_cons, cs_length]
    omega
theorem flatD_get : ∀ (l : List DD) (j t : Nat) (hj : j < l.length), t < 18 → (flatD l)[j * 18 + t]? = (l[j]).cs[t]?
  | [], j, t, hj, _ => by cases hj
  | v :: l, 0, t, _, ht => by
    have : flatD (v :: l) = v.cs ++ flatD l := rfl
    rw [this, List.getElem?_append_left (by rw [cs_length]; omega)]
    simp
  | v :: l, j + 1, t, hj, ht => by
    have : flatD (v :: l) = v.cs ++ flatD l := rfl
    rw [this, List.getElem?_append_right (by rw [cs_length]; omega)]
    have e : (j + 1) * 18 + t - v.cs.length = j * 18 + t := by rw [cs_length]; omega
    rw [e, flatD_get l j t (by simpa using hj) ht]
    simp
theorem cs_one (d : DD) : ∀ u ∈ d.cs, u.oneCell' = true := by
  intro u hu
  simp [DD.cs] at hu
  rcases hu with rfl | rfl | rfl | rfl | rfl | rfl | rfl | rfl | rfl | rfl | rfl | rfl | rfl | rfl | rfl | rfl | rfl | rfl <;> rfl
/-- A row of the call's own that holds the descriptors l. -/
def OwnD (w : World) (base : Nat) (v : Value) (l : List DD) : Prop := w.ownsRow base 27 18 v l.length (flatD l)
theorem OwnD.form {w : World} {base : Nat} {v : Value} {l : List DD} (h : OwnD w base v l) (hl : 0 < l.length) : ∃ g c, v = .slice (some ⟨g, 0, none⟩) l.length c ∧ base ≤ g ∧ g < w.heap.size ∧ RowsD w g 0 l := by
  rcases h.2 with ⟨_, h0⟩ | ⟨g, c, cur, rfl, h1, h2, h3, _, h5, h6⟩
  · omega
  · refine ⟨g, c, rfl, h1, (Array.getElem?_eq_some_iff.1 h2).1, ?_⟩
    intro j hj t u hu
    have ht : t < 18 := by
      have := (List.getElem?_eq_some_iff.1 hu).1
      rwa [cs_length] at this
    rw [← flatD_get l j t hj ht, ← h6] at hu
    have hlt : j * 18 + t < l.length * 18 := by omega
    rw [List.getElem?_take_of_lt hlt] at hu
    have e : 0 + j * 18 + t = j * 18 + t := by omega
    rw [e]
    simp [World.cell?, h2]
    simpa using hu
theorem OwnD.keep {w w' : World} {base g c n : Nat} {l : List DD} (h : OwnD w base (.slice (some ⟨g, 0, none⟩) n c) l) (he : w'.heap[g]? = w.heap[g]?) : OwnD w' base (.slice (some ⟨g, 0, none⟩) n c) l := by
  refine ⟨h.1, ?_⟩
  rcases h.2 with h | ⟨g', c', cur, e, h1, h2, h3⟩
  · exact .inl h
  · have hg : g = g' := by
      have := congrArg Value.ownBlock e
      simpa [Value.ownBlock] using this
    subst hg
    exact .inr ⟨_, c', cur, e, h1, he.trans h2, h3⟩
theorem info27w : (Tryd.prog.info? 27).map (fun i => (i.zero, i.size, i.bytes)) = some (some zeroD.agg, 18, 168) := by kernel_rfl
/-- append of one descriptor onto a row of one's own. -/
theorem append_d {w : World} {ops : Array Oper} {rest : List Oper} {o : Oper} {a : Act} {Q : Exit → Act → World → Prop} {s x : Operand} {base : Nat} {l : List DD} {v : Value} {b c : Nat} {d : DD} (hgd : o.guard = none)
    (ho : o.op = .call { callee := .builtin .append, args := #[s, x], argTypes := #[48, 48] }) (hs : a.eval s = v) (hx : a.eval x = .slice (some ⟨b, 0, none⟩) 1 c) (hown : OwnD w base v l)
    (hu : Lies w b d) (hn : l.length ≤ 1000) (hbase : base ≤ w.heap.size)
    (h : ∀ v' w', OwnD w' base v' (l ++ [d]) → w.grownBy w' v.ownBlock → wpList Tryd.prog ops Q rest (a.put o.dst v') w') : wpList Tryd.prog ops Q (o :: rest) a w := by
  obtain ⟨i0, hi, hz0, hz1, hz2⟩ := info_parts info27w
  refine wpList_append_own w hgd s x 48 ho base 27 i0 _ 18 168 Tryd.underlying48 hi hz0 hz1 hz2 rfl (by decide) v l.length (flatD l) hs hown ⟨b, 0, none⟩ 1 c d.cs hx rfl ?_ (cs_one d)
    (by unfold maxLen; omega) (by omega) hbase fun v' w' h1 h2 _ => h v' w' ?_ h2
  · intro j u hj
    have := Lies.range hu j u hj
    by_cases e : j = 0
    · subst e; simpa [Addr.add] using this
    · simpa [Addr.add, e] using this
  · unfold OwnD
    rw [flatD_append, flatD_one, List.length_append]
    exact h1
/-- A slice of one descriptor. -/
theorem kbuild {ops : Array Oper} {rest : List Oper} {o : Oper} {a : Act} {w w0 : World} {Q : Exit → Act → World → Prop} {l : List (Nat × PB)} {x : Operand} {d : DD} (hw : Region.wanted o (yielded ops a.tmps) = true) (ho : o.op = .buildSlice 48 1 #[(0, x)]) (hL : Kp w0 w l) (hx : a.eval x = d.agg)
    (h : ∀ X, X.heap[w.heap.size]? = some d.obj → X.heap.size = w.heap.size + 1 → Below w.heap.size w X → Kp w0 X (l ++ [(w.heap.size, .D d)]) → wpList Tryd.prog ops Q rest (a.put o.dst (.slice (some ⟨w.heap.size, 0, none⟩) 1 1)) X) : wpList Tryd.prog ops Q (o :: rest) a w := by
  refine BigFrame.wpList_want hw fun K hK => ?_
  have hP := hK _ _ (h _ (World.alloc_heap_new w _) (by simp) ((Below.refl _ _).alloc (Nat.le_refl _) _) (hL.new (.D d)))
  obtain ⟨i0, hi, hz0, hz1, hz2⟩ := info_parts info27w
  refine wp_buildSlice 48 27 1 _ ho #[.int .i64 d.v.k, .bool d.v.b, .float .f64 d.v.x, .string d.v.s, .int .i64 d.v.i, .int .i64 d.g.k, .bool d.g.b, .float .f64 d.g.x, .string d.g.s, .int .i64 d.g.i, .int .i64 d.s.k, .bool d.s.b, .float .f64 d.s.x, .string d.s.s, .int .i64 d.s.i, .int .i64 d.w, .int .i64 d.e, .int .i64 d.c] i0 _ Tryd.underlying48 hi hz0 (by rw [hz1]; decide) (by rw [hz1]; decide) ?_ hP
  rw [hz1]
  simp only [List.map_toArray, List.map_cons, List.map_nil, hx]
  kernel_rfl
theorem own_new {X : World} {B base : Nat} {d : DD} (h : X.heap[B]? = some d.obj) (hb : base ≤ B) : OwnD X base (.slice (some ⟨B, 0, none⟩) 1 1) [d] :=
  ⟨rfl, .inr ⟨B, 1, _, rfl, hb, h, Nat.le_refl _, by unfold maxLen; omega, rfl, rfl⟩⟩
theorem Kp.grown {w X X' : World} {l : List (Nat × PB)} {ob : Option Nat} (h : Kp w X l) (hg : X.grownBy X' ob) (ho : ∀ g, ob = some g → w.heap.size ≤ g ∧ ∀ q ∈ l, q.1 ≠ g) : Kp w X' l := by
  have hb : Below w.heap.size w X' := ⟨hg.os.trans h.below.os, hg.tape.trans h.below.tape, hg.output.trans h.below.output, Nat.le_trans h.below.size hg.size, fun k hk => by
    rw [hg.block k (Nat.lt_of_lt_of_le hk h.below.size) (fun e => by have := (ho k e.symm).1; omega)]
    exact h.below.block k hk⟩
  refine ⟨hb, fun q hq => ?_, h.nd⟩
  have hq0 := h.all q hq
  refine ⟨hq0.1, Nat.lt_of_lt_of_le hq0.2.1 hg.size, ?_⟩
  have he : X'.heap[q.1]? = X.heap[q.1]? := hg.block q.1 hq0.2.1 (fun e => (ho q.1 e.symm).2 q hq rfl)
  have hc : ∀ j, X'.cell? ⟨q.1, j, none⟩ = X.cell? ⟨q.1, j, none⟩ := fun j => World.cell?_of_block he
  have hf : ∀ j, X'.frozen? ⟨q.1, j, none⟩ = X.frozen? ⟨q.1, j, none⟩ := fun j => World.frozen?_of_block he
  have hl := hq0.2.2
  obtain ⟨b, p⟩ := q
  cases p with
  | D d =>
    show Lies X' b d
    have hl : Lies X b d := hl
    unfold Lies at *
    dsimp only at hc hf
    simp only [hc, hf]
    exact hl
  | V v =>
    show VLies X' b v
    have hl : VLies X b v := hl
    unfold VLies at *
    dsimp only at hc hf
    simp only [hc, hf]
    exact hl
/-- What is held while a region draws its order: our boxes, and the row. -/
def Sk (w : World) (L : List (Nat × PB)) (g : Nat) (ob : Option Obj) (X : World) : Prop := Kp w X L ∧ g < X.heap.size ∧ X.heap[g]? = ob
theorem Sk.on {w X Y : World} {L : List (Nat × PB)} {g : Nat} {ob : Option Obj} (h : Sk w L g ob X) (hb : Below X.heap.size X Y) : Sk w L g ob Y :=
  ⟨h.1.on hb, Nat.lt_of_lt_of_le h.2.1 hb.size, (hb.block g h.2.1).trans h.2.2⟩
theorem heap_setCells (b : Nat) : ∀ (vs : List Value) (o : Nat) (X : World) (g : Nat), g ≠ b → (X.setCells b o vs).heap[g]? = X.heap[g]?
  | [], _, _, _, _ => rfl
  | v :: vs, o, X, g, h => by
    rw [World.setCells, heap_setCells b vs _ _ g h]
    simp [World.setCell, Array.getElem?_modify, Ne.symm h]
theorem sub1 (m : Nat) (hm : m < 1000) (w : World) : (binOp .sub 3 (.int .i64 ((m + 1 : Nat) : Int)) (.int .i64 1)).run Tryd.prog w = .ok (.int .i64 (m : Int)) w := by
  have e : IntKind.i64.wrap (m : Int) = (m : Int) := by
    rw [IntKind.wrap_i64]
    omega
  simp [binOp, go_sem, e]
end Go.Proofs.YtedgaaaloigpdaaDoor
