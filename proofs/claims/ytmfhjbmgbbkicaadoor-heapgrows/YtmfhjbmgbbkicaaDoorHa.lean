import Derived.Test.YtmfhjbmgbbkicaaDoorYa
import Derived.Test.YtmfhjbmgbbkicaaDoorVg
namespace Go.Proofs.YtmfhjbmgbbkicaaDoor
open Go Go.Proofs Go.Maps Go.RowKit FM
set_option linter.unusedSimpArgs false
set_option linter.unusedVariables false
set_option maxHeartbeats 1000000
theorem alG {ops : Array Oper} {rest : List Oper} {Q : Exit → Act → World → Prop} {w w0 : World} {a : Act} {o : Oper} {E : List Nat} {L : List (Nat × List Value)} (t : TypeId) (cs : List Value) (hw : Region.wanted o (yielded ops a.tmps) = true) (ho : o.op = .alloc t) (hz : ∀ w, (zeroValue t).run Tryd.prog w = .ok (.agg cs.toArray) w) (hc : 0 < cs.length) (hL : Hq w0 w E L)
    (h : ∀ X B, B = w.heap.size → Hq w0 X E (L ++ [(B, cs)]) → Below w.heap.size w X → wpList Tryd.prog ops Q rest (a.put o.dst (.pointer (some ⟨B, 0, none⟩))) X) : wpList Tryd.prog ops Q (o :: rest) a w := by
  refine BigFrame.wpList_want hw fun K hK => ?_
  have hP := hK _ _ (h _ _ rfl (hL.new cs t hc) ((Below.refl _ _).alloc (Nat.le_refl _) _))
  unfold Oper.wp execOp
  simp only [ho]
  simp [go_sem, hz, Value.cells]
  exact hP
theorem ret_c {fn : Func} {R : Ending → World → Prop} {a : Act} {w : World} {b r T n : Nat} {cs : List Value} (hT : ∃ d, Tryd.prog.underlying T = some d ∧ d.isRow = true) (hn : (Tryd.prog.info? T).map (·.size) = some n) (hr : fn.results = #[.cell r T]) (hdf : a.defers = [])
    (hx : a.tmps.getD r undef = .pointer (some ⟨b, 0, none⟩)) (hc : Holds w b cs) (hcs : cs.length = n) (h : R (.returned (.agg cs.toArray)) w) : bodyPost Tryd.prog fn R .ret a w := by
  obtain ⟨t, hu, hd⟩ := hT
  have h0 := hc.mid 0 n
  rw [List.drop_zero, List.take_of_length_le (by omega)] at h0
  have hl := run_loadVar_mid (P := Tryd.prog) w b 0 T _ t h0 hu hd (by rw [hn, hcs])
  refine ⟨hdf, _, ?_, h⟩
  simp only [Array.getD_eq_getD_getElem?] at hx
  unfold results
  simp [hr, hx, hl, asAddr]
  try rfl
theorem ex_lenG {o : Oper} {a : Act} {w : World} {m : Operand} {A : Option Addr} {n c : Nat} (t e : TypeId) (ht : Tryd.prog.underlying t = some (.slice e)) (ho : o.op = .call { callee := .builtin .len, args := #[m], argTypes := #[t] }) (hm : a.eval m = .slice A n c) : (execOp a.eval o).run Tryd.prog w = .ok (.value (.int .i64 (n : Nat))) w := by
  simp [execOp, ho, resolve, invoke, builtin, hm, Builtin.len_, Result.andThen, goInt, ht, run_underlying ht]
theorem ex_eqYes {o : Oper} {a : Act} {w : World} {x y : Operand} {n m : Int} (ho : o.op = .binOp .eql 3 x y 3) (hx : a.eval x = .int .i64 n) (hc : a.eval y = .int .i64 m) (h : n = m) : (execOp a.eval o).run Tryd.prog w = .ok (.value (.bool true)) w := by
  unfold execOp
  simp only [ho, hx, hc]
  simp [go_sem, eqGuard, h]
theorem rangeAt_fr {w X : World} {b p : Nat} {cs : List Value} (h : w.rangeAt b p cs) (hb : b < w.heap.size) (hf : Fr w X []) : X.rangeAt b p cs := fun j v hv => by
  have e := h j v hv
  have h1 := hf.block b hb (by simp)
  unfold World.cell? at e ⊢
  dsimp only at e ⊢
  rw [h1]
  exact e
theorem ex_eqNo {o : Oper} {a : Act} {w : World} {x y : Operand} {n m : Int} (ho : o.op = .binOp .eql 3 x y 3) (hx : a.eval x = .int .i64 n) (hc : a.eval y = .int .i64 m) (h : n ≠ m) : (execOp a.eval o).run Tryd.prog w = .ok (.value (.bool false)) w := by
  unfold execOp
  simp only [ho, hx, hc]
  simp [go_sem, eqGuard, h]
theorem Hq.left {w X : World} {E : List Nat} {L M : List (Nat × List Value)} (h : Hq w X E (L ++ M)) : Hq w X E L := ⟨h.fr, fun q hq => h.all q (List.mem_append_left _ hq), by
  have := h.nd
  rw [List.map_append] at this
  exact (List.nodup_append.1 this).1⟩
theorem Holds.far {X Y : World} {b g : Nat} {cs : List Value} (h : Holds X b cs) (hb : b < X.heap.size) (hf : Fr X Y [g]) (hn : b ≠ g) : Holds Y b cs := h.block (hf.block b hb (by simpa using hn))
theorem Hq.change {w X Y : World} {E : List Nat} {g : Nat} {cs cs' : List Value} {L : List (Nat × List Value)} (h : Hq w X E ((g, cs) :: L)) (hf : Fr X Y [g]) (hh : Holds Y g cs') (hc : 0 < cs'.length) (hg : w.heap.size ≤ g) : Hq w Y E ((g, cs') :: L) := by
  have hnd := h.nd
  simp only [List.map_cons, List.nodup_cons] at hnd
  refine ⟨h.fr.trans hf (fun b hb => .inr (by obtain rfl : b = g := (by simpa using hb); exact hg)), fun q hq => ?_, by simpa using hnd⟩
  rcases List.mem_cons.1 hq with rfl | hq
  · exact ⟨hh, hc⟩
  · have h1 := h.all q (List.mem_cons_of_mem _ hq)
    have hne : q.1 ≠ g := fun e => hnd.1 (e ▸ List.mem_map_of_mem hq)
    exact ⟨h1.1.far (h1.1.lt h1.2) hf hne, h1.2⟩
theorem flat_len {α : Type} (f : α → List Value) (k : Nat) (hk : ∀ a, (f a).length = k) : ∀ l : List α, (l.flatMap f).length = l.length * k
  | [] => by simp
  | d :: l => by
    rw [List.flatMap_cons, List.length_append, hk, flat_len f k hk l, List.length_cons, Nat.add_mul, Nat.one_mul, Nat.add_comm]
theorem flat_get {α : Type} (f : α → List Value) (k : Nat) (hk : ∀ a, (f a).length = k) : ∀ (l : List α) (j t : Nat) (hj : j < l.length), t < k → (l.flatMap f)[j * k + t]? = (f l[j])[t]?
  | [], j, t, hj, _ => by simp at hj
  | d :: l, 0, t, hj, ht => by
    rw [List.flatMap_cons, Nat.zero_mul, Nat.zero_add, List.getElem?_append_left (by rw [hk]; exact ht)]
    simp
  | d :: l, j + 1, t, hj, ht => by
    have e : (j + 1) * k + t - k = j * k + t := by rw [Nat.add_mul]; omega
    rw [List.flatMap_cons, List.getElem?_append_right (by rw [hk, Nat.add_mul]; omega), hk, e, flat_get f k hk l j t (by simpa using hj) ht]
    simp
theorem own_row {α : Type} {f : α → List Value} {k : Nat} (hk : ∀ a, (f a).length = k) {W : World} {base T n : Nat} {v : Value} {l : List α} (h : W.ownsRow base T k v n (l.flatMap f)) (hn : l.length = n) (j : Nat) (hj : j < l.length) : ∃ g c, v = .slice (some ⟨g, 0, none⟩) n c ∧ base ≤ g ∧ g < W.heap.size ∧ W.rangeAt g (0 + j * k) (f l[j]) := by
  rcases h.2 with ⟨h1, h0⟩ | ⟨g, cap, cur, h1, h2, h3, h4, h5, h6, h7⟩
  · omega
  · refine ⟨g, cap, h1, h2, (Array.getElem?_eq_some_iff.1 h3).1, fun t u hu => ?_⟩
    have ht : t < k := by
      have := (List.getElem?_eq_some_iff.1 hu).1
      rwa [hk] at this
    have hlt : j * k + t < n * k := by
      have : (j + 1) * k ≤ n * k := Nat.mul_le_mul_right k (by omega)
      rw [Nat.add_mul] at this
      omega
    have h8 : (cur.toList.take (n * k))[j * k + t]? = (l.flatMap f)[j * k + t]? := by rw [h7]
    rw [List.getElem?_take, if_pos hlt, flat_get f k hk l j t hj ht, hu] at h8
    have e2 : cur[j * k + t]? = some u := by simpa using h8
    rw [Nat.zero_add]
    simp [World.cell?, h3, e2]
theorem own_blk {w w' : World} {base e s n : Nat} {v : Value} {xs : List Value} (h : w.ownsRow base e s v n xs) (he : ∀ g, v.ownBlock = some g → w'.heap[g]? = w.heap[g]?) : w'.ownsRow base e s v n xs := by
  obtain ⟨h1, h2⟩ := h
  refine ⟨h1, ?_⟩
  rcases h2 with h2 | ⟨g, cap, cur, rfl, h3, h4, h5⟩
  · exact .inl h2
  · exact .inr ⟨g, cap, cur, rfl, h3, (he g rfl).trans h4, h5⟩
theorem own_fr {w w' : World} {base e s n : Nat} {v : Value} {xs : List Value} (h : w.ownsRow base e s v n xs) (hf : Fr w w' []) : w'.ownsRow base e s v n xs := own_blk h (fun g hg => hf.block g (World.ownsRow.lt h g hg).2 (by simp))
theorem row35 : ∃ d, Tryd.prog.underlying 35 = some d ∧ d.isRow = true := ⟨_, Tryd.underlying35, rfl⟩
theorem siz35 : (Tryd.prog.info? 35).map (·.size) = some 5 := by kernel_rfl
theorem row38 : ∃ d, Tryd.prog.underlying 38 = some d ∧ d.isRow = true := ⟨_, Tryd.underlying38, rfl⟩
theorem siz38 : (Tryd.prog.info? 38).map (·.size) = some 8 := by kernel_rfl
theorem row51 : ∃ d, Tryd.prog.underlying 51 = some d ∧ d.isRow = true := ⟨_, Tryd.underlying51, rfl⟩
theorem siz51 : (Tryd.prog.info? 51).map (·.size) = some 5 := by kernel_rfl
theorem row79 : ∃ d, Tryd.prog.underlying 79 = some d ∧ d.isRow = true := ⟨_, Tryd.underlying79, rfl⟩
theorem siz79 : (Tryd.prog.info? 79).map (·.size) = some 10 := by kernel_rfl
theorem row89 : ∃ d, Tryd.prog.underlying 89 = some d ∧ d.isRow = true := ⟨_, Tryd.underlying89, rfl⟩
theorem siz89 : (Tryd.prog.info? 89).map (·.size) = some 3 := by kernel_rfl
theorem row46 : ∃ d, Tryd.prog.underlying 46 = some d ∧ d.isRow = true := ⟨_, Tryd.underlying46, rfl⟩
theorem siz46 : (Tryd.prog.info? 46).map (·.size) = some 7 := by kernel_rfl
theorem row59 : ∃ d, Tryd.prog.underlying 59 = some d ∧ d.isRow = true := ⟨_, Tryd.underlying59, rfl⟩
theorem siz59 : (Tryd.prog.info? 59).map (·.size) = some 2 := by kernel_rfl
theorem row62 : ∃ d, Tryd.prog.underlying 62 = some d ∧ d.isRow = true := ⟨_, Tryd.underlying62, rfl⟩
theorem siz62 : (Tryd.prog.info? 62).map (·.size) = some 18 := by kernel_rfl
theorem row64 : ∃ d, Tryd.prog.underlying 64 = some d ∧ d.isRow = true := ⟨_, Tryd.underlying64, rfl⟩
theorem siz64 : (Tryd.prog.info? 64).map (·.size) = some 20 := by kernel_rfl
theorem siz3 : (Tryd.prog.info? 3).map (·.size) = some 1 := by kernel_rfl
theorem siz4 : (Tryd.prog.info? 4).map (·.size) = some 1 := by kernel_rfl
theorem siz22 : (Tryd.prog.info? 22).map (·.size) = some 1 := by kernel_rfl
theorem siz25 : (Tryd.prog.info? 25).map (·.size) = some 1 := by kernel_rfl
theorem siz28 : (Tryd.prog.info? 28).map (·.size) = some 1 := by kernel_rfl
theorem siz36 : (Tryd.prog.info? 36).map (·.size) = some 1 := by kernel_rfl
theorem siz49 : (Tryd.prog.info? 49).map (·.size) = some 1 := by kernel_rfl
theorem idx22 (w : World) : (sizeOf (Tryd.prog.elem 22)).run Tryd.prog w = .ok 5 w := by kernel_rfl
theorem und22 : Tryd.prog.underlying 22 = some (.slice (Tryd.prog.elem 22)) := by kernel_rfl
theorem idx28 (w : World) : (sizeOf (Tryd.prog.elem 28)).run Tryd.prog w = .ok 8 w := by kernel_rfl
theorem und28 : Tryd.prog.underlying 28 = some (.slice (Tryd.prog.elem 28)) := by kernel_rfl
theorem idx36 (w : World) : (sizeOf (Tryd.prog.elem 36)).run Tryd.prog w = .ok 20 w := by kernel_rfl
theorem und36 : Tryd.prog.underlying 36 = some (.slice (Tryd.prog.elem 36)) := by kernel_rfl
theorem idx49 (w : World) : (sizeOf (Tryd.prog.elem 49)).run Tryd.prog w = .ok 1 w := by kernel_rfl
theorem und49 : Tryd.prog.underlying 49 = some (.slice (Tryd.prog.elem 49)) := by kernel_rfl
theorem idx84 (w : World) : (sizeOf (Tryd.prog.elem 84)).run Tryd.prog w = .ok 1 w := by kernel_rfl
theorem und84 : Tryd.prog.underlying 84 = some (.slice (Tryd.prog.elem 84)) := by kernel_rfl
theorem vagg (v : VV) : v.agg = .agg v.cs.toArray := rfl
theorem vcs_one (v : VV) : ∀ u ∈ v.cs, u.oneCell' = true := by simp [VV.cs, Value.oneCell']
theorem vcs_length (v : VV) : v.cs.length = 5 := rfl
/-- A slice whose elements are these values. -/
def ReadsV (w : World) (A : Option Addr) (l : List VV) : Prop := ∀ j v, l[j]? = some v → ∃ b off, A = some ⟨b, off, none⟩ ∧ b < w.heap.size ∧ w.rangeAt b (off + j * 5) v.cs
theorem ReadsV.fr {w X : World} {A : Option Addr} {l : List VV} (h : ReadsV w A l) (hf : Fr w X []) : ReadsV X A l := fun j p hp => by
  obtain ⟨b, off, h2, h3, h4⟩ := h j p hp
  exact ⟨b, off, h2, Nat.lt_of_lt_of_le h3 hf.size, rangeAt_fr h4 h3 hf⟩
/-- A shape's cells: ordinary, extensible, without properties. -/
def shc (p : VV) (A : Option Addr) (c : Nat) : List Value := [.int .i64 1] ++ p.cs ++ [.bool true, .slice A 0 c]
theorem shc_length (p : VV) (A : Option Addr) (c : Nat) : (shc p A c).length = 8 := rfl
theorem shc_one (p : VV) (A : Option Addr) (c : Nat) : ∀ u ∈ shc p A c, u.oneCell' = true := by simp [shc, VV.cs, Value.oneCell']
def zshc : List Value := [.int .i64 0] ++ zeroV.cs ++ [.bool false, .slice none 0 0]
/-- The cells of an empty table. -/
def tcs (m : Nat) : List Value := [.map (some m), .slice none 0 0, .int .u64 0]
/-- An object: its block, its table's, its map's, its prototype. -/
structure OB where
  b : Nat
  t : Nat
  m : Nat
  p : VV
def OB.cs (o : OB) : List Value := [.int .i64 1] ++ o.p.cs ++ [.bool true, .pointer (some ⟨o.t, 0, none⟩), .iface 54 (.agg #[]), .nilIface]
def OB.blocks (o : OB) : List Nat := [o.b, o.t, o.m]
def OB.ptr (o : OB) : Value := .pointer (some ⟨o.b, 0, none⟩)
/-- A table with nothing in it. -/
def TB (w : World) (t m : Nat) : Prop := Holds w t (tcs m) ∧ w.heap[m]? = some (Obj.map #[] 0)
structure OB.Is (w : World) (o : OB) : Prop where
  blk : Holds w o.b o.cs
  tab : TB w o.t o.m
theorem TB.block {w X : World} {t m : Nat} (h : TB w t m) (h1 : X.heap[t]? = w.heap[t]?) (h2 : X.heap[m]? = w.heap[m]?) : TB X t m := ⟨h.1.block h1, h2.trans h.2⟩
theorem TB.lt {w : World} {t m : Nat} (h : TB w t m) : t < w.heap.size ∧ m < w.heap.size := ⟨h.1.lt (by simp [tcs]), (Array.getElem?_eq_some_iff.1 h.2).1⟩
theorem TB.fr {w X : World} {t m : Nat} (h : TB w t m) (hf : Fr w X []) : TB X t m := h.block (hf.block _ h.lt.1 (by simp)) (hf.block _ h.lt.2 (by simp))
theorem OB.Is.block {w X : World} {o : OB} (h : o.Is w) (hb : ∀ b ∈ o.blocks, X.heap[b]? = w.heap[b]?) : o.Is X := ⟨h.blk.block (hb _ (by simp [OB.blocks])), h.tab.block (hb _ (by simp [OB.blocks])) (hb _ (by simp [OB.blocks]))⟩
theorem OB.Is.lt {w : World} {o : OB} (h : o.Is w) : ∀ b ∈ o.blocks, b < w.heap.size := by
  intro b hb
  simp [OB.blocks] at hb
  rcases hb with rfl | rfl | rfl
  · exact h.blk.lt (by simp [OB.cs])
  · exact h.tab.lt.1
  · exact h.tab.lt.2
theorem OB.Is.fr {w X : World} {o : OB} (h : o.Is w) (hf : Fr w X []) : o.Is X := h.block (fun b hb => hf.block b (h.lt b hb) (by simp))
/-- A heap: its block, its row of objects, how many there may be, its fuel and depth. -/
structure HP where
  b : Nat
  gv : Value
  l : List OB
  cap : Int
  fuel : Int
  depth : Int
def hcs (h : HP) : List Value := [h.gv, .int .i64 h.cap, .int .i64 h.fuel, .int .i64 h.depth, .int .i64 0]
def HP.obs (h : HP) : List Nat := h.l.flatMap OB.blocks
def HP.blocks (h : HP) : List Nat := h.b :: (h.gv.ownBlock.toList ++ h.obs)
structure HP.Is (w : World) (n : Nat) (h : HP) : Prop where
  blk : Holds w h.b (hcs h)
  own : w.ownsRow n 55 1 h.gv h.l.length (h.l.map OB.ptr)
  all : ∀ o ∈ h.l, o.Is w
  base : n ≤ h.b
  sep : h.b ∉ h.obs ∧ h.gv.ownBlock ≠ some h.b ∧ ∀ g, h.gv.ownBlock = some g → g ∉ h.obs
  lim : (h.l.length : Int) ≤ h.cap ∧ h.cap ≤ 65536
theorem HP.Is.few {w : World} {n : Nat} {h : HP} (H : h.Is w n) : h.l.length ≤ 65536 := by have := H.lim; omega
theorem HP.Is.lt {w : World} {n : Nat} {h : HP} (H : h.Is w n) : ∀ b ∈ h.blocks, b < w.heap.size := by
  intro b hb
  simp only [HP.blocks, List.mem_cons, List.mem_append, HP.obs, List.mem_flatMap] at hb
  rcases hb with rfl | hb | ⟨o, ho, hb⟩
  · exact H.blk.lt (by simp [hcs])
  · exact (World.ownsRow.lt H.own b (by simpa using hb)).2
  · exact (H.all o ho).lt b hb
theorem HP.Is.block {w X : World} {n : Nat} {h : HP} (H : h.Is w n) (hb : ∀ b ∈ h.blocks, X.heap[b]? = w.heap[b]?) : h.Is X n := by
  refine ⟨H.blk.block (hb _ (by simp [HP.blocks])), own_blk H.own (fun g hg => hb g (by simp [HP.blocks, hg])), fun o ho => (H.all o ho).block (fun b h2 => hb b ?_), H.base, H.sep, H.lim⟩
  simp only [HP.blocks, List.mem_cons, List.mem_append, HP.obs, List.mem_flatMap]
  exact .inr (.inr ⟨o, ho, h2⟩)
theorem HP.Is.fr {w X : World} {n : Nat} {h : HP} (H : h.Is w n) (hf : Fr w X []) : h.Is X n := H.block (fun b hb => hf.block b (H.lt b hb) (by simp))
theorem HP.Is.drew {w : World} {n : Nat} {h : HP} (H : h.Is w n) : h.Is w.drew n := H.fr (Fr.refl w []).drew
theorem HP.Is.form {w : World} {n : Nat} {h : HP} (H : h.Is w n) : ∃ A c, h.gv = .slice A h.l.length c := own_form H.own
theorem len8 (h : HP) (n : Nat) (w : World) (H : h.Is w n) : Calls Tryd.prog 8 #[.pointer (some ⟨h.b, 0, none⟩)] w fun e w' => e = .returned (.int .i64 (h.l.length : Nat)) ∧ w' = w := by
  obtain ⟨A, c, hgv⟩ := H.form
  have HB : Hid (Holds w h.b [.slice A h.l.length c, .int .i64 h.cap, .int .i64 h.fuel, .int .i64 h.depth, .int .i64 0]) := hide (by have := H.blk; unfold hcs at this; rw [hgv] at this; exact this)
  clear hgv H
  go_enter Tryd.func8, Tryd.ntmps8
  go_wp2_with (first | go_skip | ((with_reducible show wpList _ _ _ _ _ _); first | ((refine rd (by rfl) (ex_load1 49 Tryd.isAgg49 rfl rfl (unhide HB) rfl) ?_); simp only [Act.put, List.setIfInBounds_toArray, List.set_cons_succ, List.set_cons_zero]) | ((refine rd (by rfl) (ex_lenG 49 55 Tryd.underlying49 rfl rfl) ?_); simp only [Act.put, List.setIfInBounds_toArray, List.set_cons_succ, List.set_cons_zero])))
  go_ret
  exact ⟨rfl, rfl⟩
theorem fuel9 (h : HP) (n : Nat) (w : World) (H : h.Is w n) : Calls Tryd.prog 9 #[.pointer (some ⟨h.b, 0, none⟩)] w fun e w' => e = .returned (.int .i64 h.fuel) ∧ w' = w := by
  have HB := hide H.blk
  clear H
  go_enter Tryd.func9, Tryd.ntmps9
  go_wp2_with (first | go_skip | ((with_reducible show wpList _ _ _ _ _ _); first | ((refine rd (by rfl) (ex_load1 3 Tryd.isAgg3 rfl rfl (unhide HB) rfl) ?_); simp only [Act.put, List.setIfInBounds_toArray, List.set_cons_succ, List.set_cons_zero])))
  go_ret
  exact ⟨rfl, rfl⟩
def hasH (o : Int) (n : Nat) : Bool := decide (1 ≤ o) && decide (o ≤ (n : Int))
theorem has27 (h : HP) (n : Nat) (o : Int) (w : World) (H : h.Is w n) : Calls Tryd.prog 27 #[.pointer (some ⟨h.b, 0, none⟩), .int .i64 o] w fun e w' => e = .returned (.bool (hasH o h.l.length)) ∧ w' = w := by
  have HL := hide (len8 h n w H)
  clear H
  unfold hasH
  by_cases h1 : 1 ≤ o
  · have e : (decide (1 ≤ o) && decide (o ≤ (h.l.length : Int))) = decide (o ≤ (h.l.length : Int)) := by simp [h1]
    rw [e]
    clear e
    go_enter Tryd.func27, Tryd.ntmps27
    go_wp2_with fail
    refine (unhide HL).mono ?_
    rintro _ _ ⟨rfl, rfl⟩
    go_wp2
    go_ret
    exact ⟨rfl, rfl⟩
  · have e : (decide (1 ≤ o) && decide (o ≤ (h.l.length : Int))) = false := by simp [h1]
    rw [e]
    clear e
    go_enter Tryd.func27, Tryd.ntmps27
    go_wp2
    go_ret
    exact ⟨rfl, rfl⟩
end Go.Proofs.YtmfhjbmgbbkicaaDoor
