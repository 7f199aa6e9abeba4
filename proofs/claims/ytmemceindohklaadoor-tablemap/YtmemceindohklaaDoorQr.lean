import Derived.Test.YtmemceindohklaaDoorQq
import Derived.Test.YtmemceindohklaaDoorQp
import Derived.Test.YtmemceindohklaaDoorQo
import Derived.OrdersHeld
import Derived.OrdersIn
import Derived.Deep.RegionHeld3

/-! Rd -/
namespace Go.Proofs.YtmemceindohklaaDoor
open Go Go.Proofs Go.Maps Go.RowKit
set_option linter.unusedSimpArgs false
set_option linter.unusedVariables false
set_option maxHeartbeats 1000000
/-! What the acts make of a table, told without memory. -/
abbrev EN := KK × DD × Nat
/-- A table, as nobody can tell gaps: its entries in order, with their numbers, and the last number given. -/
structure AS where
  l : List EN
  last : Nat
def enOf (r : RR) : EN := (r.k, r.d, r.n)
def abs (T : TT) : AS := ⟨T.live.map enOf, T.last⟩
def AS.has (s : AS) (k : KK) : Bool := s.l.any (fun e => decide (e.1 = k))
def AS.put (s : AS) (k : KK) (d : DD) : AS := if s.has k then ⟨s.l.map (fun e => if e.1 = k then (e.1, d, e.2.2) else e), s.last⟩ else if goodK k then ⟨s.l ++ [(k, d, s.last + 1)], s.last + 1⟩ else s
def AS.del (s : AS) (k : KK) : AS := ⟨s.l.filter (fun e => decide (e.1 ≠ k)), s.last⟩
def AS.next (s : AS) (m : Nat) : Option EN := s.l.find? (fun e => decide (m < e.2.2))
theorem abs_has (T : TT) (k : KK) : (abs T).has k = (T.find k).isSome := by
  unfold AS.has abs TT.find
  rw [List.isSome_find?, List.any_map]
  rfl
theorem abs_del {T T' : TT} {k : KK} (hl : T'.live = T.live.filter (fun q => decide (q.k ≠ k))) (hn : T'.last = T.last) : abs T' = (abs T).del k := by
  unfold abs AS.del
  rw [hl, hn, List.filter_map]
  rfl
theorem abs_same {T T' : TT} (hl : T'.live = T.live) (hn : T'.last = T.last) : abs T' = abs T := by
  unfold abs
  rw [hl, hn]
theorem abs_next (T : TT) (m : Nat) : (abs T).next m = (T.next m).map enOf := by
  unfold AS.next abs TT.next TT.live
  rw [List.find?_map, List.find?_filter]
  congr 1
  apply find_congr
  intro r hr
  simp only [after, Function.comp, enOf]
  by_cases h : m < r.n <;> cases r.gone <;> simp [h]
theorem abs_put {T T' : TT} {W : World} {k : KK} {d : DD} (hT : T.Is W) (h : PutT T k d T') : abs T' = (abs T).put k d := by
  unfold AS.put
  rw [abs_has]
  rcases h with ⟨r, h1, rfl⟩ | ⟨h1, h2, rv, R, rfl⟩ | ⟨h1, h2, rfl⟩
  · rw [h1, if_pos (show (some r).isSome = true from rfl)]
    have hrl : r ∈ T.live := List.mem_of_find?_eq_some h1
    have hrk : r.k = k := (TT.find_mem h1).2.2
    unfold abs
    rw [TT.upd_live, List.map_map, List.map_map]
    congr 1
    apply List.map_congr_left
    intro q hq
    have e := block_key hT hrl hq
    show enOf (updR r.b d q) = if (enOf q).1 = k then ((enOf q).1, d, (enOf q).2.2) else enOf q
    unfold updR
    by_cases hb : q.b = r.b
    · rw [if_pos hb, if_pos (show (enOf q).1 = k from (e.1 hb).trans hrk)]
      rfl
    · rw [if_neg hb, if_neg (show ¬ (enOf q).1 = k from fun h => hb (e.2 (Eq.trans h hrk.symm)))]
  · rw [h1, if_neg (show ¬ ((none : Option RR).isSome = true) by simp), if_pos h2]
    unfold abs
    rw [TT.added_live, List.map_append]
    rfl
  · rw [h1, if_neg (show ¬ ((none : Option RR).isSome = true) by simp), if_neg (by simp [h2])]
/-- An act, as it is read. -/
structure AC where
  kd : Int
  k : KK
  d : DD
  n : Int
  inner : Value
def AC.cs (x : AC) : List Value := actCs x.kd x.k x.d x.n x.inner
/-- An act with the acts of its body. -/
structure AT where
  kd : Int
  k : KK
  d : DD
  n : Int
  il : List AC
/-- A walk under way. -/
structure WA where
  s : AS
  «at» : Nat
  n : Int
  m : Nat
def hashI (n : Int) (k : KK) : Int := IntKind.i64.wrap (IntKind.i64.wrap (IntKind.i64.wrap (n * 31) + (k.s.size : Int)) + k.n)
def innerA (il : List AC) (i : Nat) (s : AS) : AS := match il[i]? with
  | some x => if x.kd = 1 then s.put x.k x.d else if x.kd = 2 then s.del x.k else s
  | none => s
def stepA (il : List AC) (w : WA) (e : EN) : WA := ⟨innerA il w.at w.s, w.at + 1, hashI w.n e.1, e.2.2⟩
def walkA (il : List AC) : Nat → WA → WA
  | 0, w => w
  | f + 1, w => match w.s.next w.m with
    | none => w
    | some e => if 200 < (stepA il w e).at then stepA il w e else walkA il f (stepA il w e)
def actA (a : AT) (s : AS) : AS × Int :=
  if a.kd = 1 then (s.put a.k a.d, errOf a.k) else if a.kd = 2 then (s.del a.k, if s.has a.k then 1 else 0) else if a.kd = 3 then (⟨[], s.last⟩, 0)
  else if a.kd = 5 then (s, if s.has a.k then 1 else 0) else if a.kd = 6 then (s, if 0 ≤ a.n ∧ a.n < (s.l.length : Int) then 1 else 0)
  else if a.kd = 9 then ((walkA a.il 201 ⟨s, 0, 0, 0⟩).s, (walkA a.il 201 ⟨s, 0, 0, 0⟩).n) else (s, 0)
def runA : List AT → AS → List Int → AS × List Int
  | [], s, t => (s, t)
  | a :: l, s, t => runA l (actA a s).1 (t ++ [(actA a s).2, ((actA a s).1.l.length : Int)])
theorem put_last (s : AS) (k : KK) (d : DD) : (s.put k d).last ≤ s.last + 1 := by
  unfold AS.put
  split
  · exact Nat.le_succ _
  · split
    · exact Nat.le_refl _
    · exact Nat.le_succ _
theorem inner_last (il : List AC) (i : Nat) (s : AS) : (innerA il i s).last ≤ s.last + 1 := by
  unfold innerA
  split
  · split
    · exact put_last _ _ _
    · split
      · exact Nat.le_succ _
      · exact Nat.le_succ _
  · exact Nat.le_succ _
theorem walk_last (il : List AC) : ∀ (f : Nat) (w : WA), (walkA il f w).s.last ≤ w.s.last + f
  | 0, w => Nat.le_refl _
  | f + 1, w => by
    unfold walkA
    split
    · omega
    · rename_i e _
      have h1 : (stepA il w e).s.last ≤ w.s.last + 1 := inner_last il w.at w.s
      split
      · omega
      · have := walk_last il f (stepA il w e)
        omega
theorem act_last (a : AT) (s : AS) : (actA a s).1.last ≤ s.last + 201 := by
  unfold actA
  split
  · exact Nat.le_trans (put_last s a.k a.d) (by omega)
  · split
    · exact Nat.le_add_right _ _
    · split
      · exact Nat.le_add_right _ _
      · split
        · exact Nat.le_add_right _ _
        · split
          · exact Nat.le_add_right _ _
          · split
            · exact walk_last a.il 201 ⟨s, 0, 0, 0⟩
            · exact Nat.le_add_right _ _
/-- The table at work in X, since w: its own blocks and new ones alone are others; our boxes lie apart from it. -/
structure RI (w X : World) (T0 T : TT) (L : List (Nat × List Value)) : Prop where
  is : T.Is X
  hq : Hq w X T0.blocks L
  new : ∀ b ∈ T.blocks, b ∈ T0.blocks ∨ w.heap.size ≤ b
  sep : ∀ q ∈ L, q.1 ∉ T.blocks
  tq : T.t = T0.t
theorem RI.start {w : World} {T : TT} (h : T.Is w) : RI w w T T [] := ⟨h, Hq.nil _ _, fun b hb => .inl hb, by simp, rfl⟩
theorem RI.on {w X Y : World} {T0 T : TT} {L : List (Nat × List Value)} (h : RI w X T0 T L) (k : Below X.heap.size X Y) : RI w Y T0 T L := ⟨h.is.on k, h.hq.on k, h.new, h.sep, h.tq⟩
theorem RI.step {w X Y : World} {T0 T T' : TT} {L : List (Nat × List Value)} (h : RI w X T0 T L) (hT : T'.Is Y) (ht : T'.t = T.t) (hf : Fr X Y T.blocks) (hb : ∀ b ∈ T'.blocks, b ∈ T.blocks ∨ X.heap.size ≤ b) : RI w Y T0 T' L :=
  ⟨hT, h.hq.step hf h.new h.sep, fun b h1 => by
    rcases hb b h1 with h2 | h2
    · exact h.new b h2
    · exact .inr (Nat.le_trans h.hq.fr.size h2), fun q hq h1 => by
    rcases hb _ h1 with h2 | h2
    · exact h.sep q hq h2
    · have := h.hq.lt q hq
      omega, ht.trans h.tq⟩
theorem RI.box {w X Y : World} {T0 T : TT} {L : List (Nat × List Value)} {cs : List Value} (h : RI w X T0 T L) (hL : Hq w Y T0.blocks (L ++ [(X.heap.size, cs)])) (k : Below X.heap.size X Y) : RI w Y T0 T (L ++ [(X.heap.size, cs)]) :=
  ⟨h.is.on k, hL, h.new, fun q hq h1 => by
    rcases List.mem_append.1 hq with h2 | h2
    · exact h.sep q h2 h1
    · obtain rfl : q = (X.heap.size, cs) := by simpa using h2
      have := h.is.lt _ h1
      exact Nat.lt_irrefl _ this, h.tq⟩
theorem RI.put {w X : World} {T0 T : TT} {L : List (Nat × List Value)} (h : RI w X T0 T L) (i : Nat) {b : Nat} {cs : List Value} (hi : L[i]? = some (b, cs)) (p : Nat) (vs : List Value) (hp : p + vs.length ≤ cs.length) (hE : w.heap.size ≤ b) : RI w (X.setCells b p vs) T0 T (L.set i (b, cput cs p vs)) := by
  have hsb := h.sep _ (List.mem_of_getElem? hi)
  refine ⟨?_, h.hq.put i hi p vs hp (.inr hE), h.new, fun q hq h1 => ?_, h.tq⟩
  · exact h.is.block (fun c hc => heap_setCells b vs p X c (fun e => hsb (e ▸ hc)))
  · rcases List.getElem?_of_mem hq with ⟨j, hj⟩
    rw [List.getElem?_set] at hj
    split at hj
    · split at hj
      · obtain rfl := Option.some.inj hj
        exact hsb h1
      · cases hj
    · exact h.sep q (List.mem_of_getElem? hj) h1
theorem RI.left {w X : World} {T0 T : TT} {L M : List (Nat × List Value)} (h : RI w X T0 T (L ++ M)) : RI w X T0 T L := ⟨h.is, ⟨h.hq.fr, fun q hq => h.hq.all q (List.mem_append_left _ hq), by
  have := h.hq.nd
  rw [List.map_append] at this
  exact (List.nodup_append.1 this).1⟩, h.new, fun q hq => h.sep q (List.mem_append_left _ hq), h.tq⟩
end Go.Proofs.YtmemceindohklaaDoor

/-! Re -/
namespace Go.Proofs.YtmemceindohklaaDoor
open Go Go.Proofs Go.Maps Go.RowKit
set_option linter.unusedSimpArgs false
set_option linter.unusedVariables false
set_option maxHeartbeats 1000000
/-- The table at work, the row of what was told so far, which lies apart, and the marks of ranges that have ended. -/
structure RJ (w X : World) (T0 T : TT) (L : List (Nat × List Value)) (tv : Value) (xs : List Int) (ds : List Nat) : Prop where
  ri : RI w X T0 T L
  own : X.ownsRow w.heap.size 3 1 tv xs.length (xs.map (fun z => .int .i64 z))
  apart : ∀ g, tv.ownBlock = some g → g ∉ T.blocks ∧ ∀ q ∈ L, q.1 ≠ g
  mkd : ∀ D ∈ ds, X.heap[D]? = some (.deferred (some []))
  low : ∀ D ∈ ds, w.heap.size ≤ D
  dnd : ds.Nodup
theorem hold_def {X : World} {b : Nat} {cs : List Value} (h : Holds X b cs) (hc : 0 < cs.length) : X.heap[b]? ≠ some (.deferred (some [])) := fun e => by
  have h0 := h.cell 0 (List.getElem?_eq_getElem hc)
  simp [World.cell?, e] at h0
theorem own_def {X : World} {base e s n : Nat} {v : Value} {ys : List Value} (h : X.ownsRow base e s v n ys) {g : Nat} (hg : v.ownBlock = some g) : X.heap[g]? ≠ some (.deferred (some [])) := fun e2 => by
  rcases h.2 with ⟨h1, h2⟩ | ⟨g', cap, cur, h1, h3, h4, h5⟩
  · rw [h1] at hg
    cases hg
  · rw [h1] at hg
    obtain rfl : g' = g := Option.some.inj hg
    rw [h4] at e2
    cases e2
theorem tab_def {X : World} {T : TT} (h : T.Is X) {b : Nat} (hb : b ∈ T.blocks) : X.heap[b]? ≠ some (.deferred (some [])) := by
  simp only [TT.blocks, List.mem_cons, List.mem_append, List.mem_map] at hb
  rcases hb with rfl | rfl | hb | ⟨r, hr, rfl⟩
  · exact hold_def h.tab (by simp [TT.cs])
  · obtain ⟨D, ⟨es, clock, hm, _⟩, _⟩ := h.map
    rw [hm]
    intro e
    cases e
  · exact own_def h.own (by simpa using hb)
  · exact hold_def (h.rows r hr) (by simp [rcs_length])
section
variable {w X Y : World} {T0 T T' : TT} {L M : List (Nat × List Value)} {tv : Value} {xs : List Int} {ds : List Nat}
theorem RJ.get (h : RJ w X T0 T L tv xs ds) (i : Nat) {b : Nat} {cs : List Value} (hi : L[i]? = some (b, cs)) : Holds X b cs := h.ri.hq.get i hi
theorem RJ.fr (h : RJ w X T0 T L tv xs ds) : Fr w X T0.blocks := h.ri.hq.fr
theorem RJ.start (h : T.Is w) : RJ w w T T [] (.slice none 0 0) [] [] := ⟨RI.start h, ⟨rfl, .inl ⟨rfl, rfl⟩⟩, (fun g hg => by cases hg), by simp, by simp, by simp⟩
theorem own_keep {base e s n : Nat} {v : Value} {ys : List Value} (h : X.ownsRow base e s v n ys) (he : ∀ g, v.ownBlock = some g → Y.heap[g]? = X.heap[g]?) : Y.ownsRow base e s v n ys := by
  obtain ⟨h1, h2⟩ := h
  refine ⟨h1, ?_⟩
  rcases h2 with h2 | ⟨g, cap, cur, rfl, h3, h4, h5⟩
  · exact .inl h2
  · exact .inr ⟨g, cap, cur, rfl, h3, (he g rfl).trans h4, h5⟩
theorem mk_keep {E : List Nat} (h : ∀ D ∈ ds, X.heap[D]? = some (.deferred (some []))) (hf : Fr X Y E) (hE : ∀ b ∈ E, X.heap[b]? ≠ some (.deferred (some []))) : ∀ D ∈ ds, Y.heap[D]? = some (.deferred (some [])) := fun D hD =>
  (hf.block D (Array.getElem?_eq_some_iff.1 (h D hD)).1 (fun hm => hE D hm (h D hD))).trans (h D hD)
theorem RJ.on (h : RJ w X T0 T L tv xs ds) (k : Below X.heap.size X Y) : RJ w Y T0 T L tv xs ds :=
  ⟨h.ri.on k, own_keep h.own (fun g hg => k.block g (World.ownsRow.lt h.own g hg).2), h.apart, mk_keep h.mkd (Fr.of_below k []) (by simp), h.low, h.dnd⟩
theorem RJ.drew (h : RJ w X T0 T L tv xs ds) : RJ w X.drew T0 T L tv xs ds := h.on ((Below.refl _ _).drew)
theorem RJ.step (h : RJ w X T0 T L tv xs ds) (hT : T'.Is Y) (ht : T'.t = T.t) (hf : Fr X Y T.blocks) (hb : ∀ b ∈ T'.blocks, b ∈ T.blocks ∨ X.heap.size ≤ b) : RJ w Y T0 T' L tv xs ds :=
  ⟨h.ri.step hT ht hf hb, own_keep h.own (fun g hg => hf.block g (World.ownsRow.lt h.own g hg).2 (h.apart g hg).1), fun g hg => ⟨fun h1 => by
    rcases hb g h1 with h2 | h2
    · exact (h.apart g hg).1 h2
    · have := (World.ownsRow.lt h.own g hg).2
      omega, (h.apart g hg).2⟩, mk_keep h.mkd hf (fun b hb => tab_def h.ri.is hb), h.low, h.dnd⟩
theorem RJ.box (h : RJ w X T0 T L tv xs ds) (cs : List Value) (t : TypeId) (hc : 0 < cs.length) : RJ w (X.alloc (Obj.cells cs.toArray t)) T0 T (L ++ [(X.heap.size, cs)]) tv xs ds := by
  have k : Below X.heap.size X (X.alloc (Obj.cells cs.toArray t)) := (Below.refl _ _).alloc (Nat.le_refl _) _
  refine ⟨h.ri.box (h.ri.hq.new cs t hc) k, own_keep h.own (fun g hg => k.block g (World.ownsRow.lt h.own g hg).2), fun g hg => ⟨(h.apart g hg).1, fun q hq => ?_⟩, mk_keep h.mkd (Fr.of_below k []) (by simp), h.low, h.dnd⟩
  rcases List.mem_append.1 hq with h2 | h2
  · exact (h.apart g hg).2 q h2
  · obtain rfl : q = (X.heap.size, cs) := by simpa using h2
    have := (World.ownsRow.lt h.own g hg).2
    exact fun e => Nat.lt_irrefl _ (e ▸ this)
theorem RJ.put (h : RJ w X T0 T L tv xs ds) (i : Nat) {b : Nat} {cs : List Value} (hi : L[i]? = some (b, cs)) (p : Nat) (vs : List Value) (hp : p + vs.length ≤ cs.length) (hE : w.heap.size ≤ b) : RJ w (X.setCells b p vs) T0 T (L.set i (b, cput cs p vs)) tv xs ds := by
  have hm := List.mem_of_getElem? hi
  refine ⟨h.ri.put i hi p vs hp hE, own_keep h.own (fun g hg => heap_setCells b vs p X g (Ne.symm ((h.apart g hg).2 _ hm))), fun g hg => ⟨(h.apart g hg).1, fun q hq => ?_⟩, mk_keep h.mkd (Fr.setCells X b p vs) (fun c hc => ?_), h.low, h.dnd⟩
  · rcases List.getElem?_of_mem hq with ⟨j, hj⟩
    rw [List.getElem?_set] at hj
    split at hj
    · split at hj
      · obtain rfl := Option.some.inj hj
        exact (h.apart g hg).2 (b, cs) hm
      · cases hj
    · exact (h.apart g hg).2 q (List.mem_of_getElem? hj)
  · obtain rfl : c = b := by simpa using hc
    exact hold_def (h.get i hi) (h.ri.hq.all _ hm).2
theorem RJ.left (h : RJ w X T0 T (L ++ M) tv xs ds) : RJ w X T0 T L tv xs ds := ⟨h.ri.left, h.own, fun g hg => ⟨(h.apart g hg).1, fun q hq => (h.apart g hg).2 q (List.mem_append_left _ hq)⟩, h.mkd, h.low, h.dnd⟩
theorem RJ.app {tv2 : Value} {ys : List Int} (h : RJ w X T0 T L tv xs ds) (ho : Y.ownsRow w.heap.size 3 1 tv2 (xs ++ ys).length ((xs ++ ys).map (fun z => .int .i64 z))) (hg : X.grownBy Y tv.ownBlock) (hF : Fresh X tv tv2) : RJ w Y T0 T L tv2 (xs ++ ys) ds := by
  have hgY : Fr X Y tv.ownBlock.toList := Fr.grown hg
  have hE : ∀ b, b ∈ tv.ownBlock.toList → tv.ownBlock = some b := fun b hb => by simpa using hb
  refine ⟨⟨h.ri.is.block (fun b hb => hgY.block b (h.ri.is.lt b hb) (fun hm => (h.apart b (hE b hm)).1 hb)), h.ri.hq.step hgY (fun b hb => .inr (World.ownsRow.lt h.own b (hE b hb)).1) (fun q hq hm => (h.apart q.1 (hE _ hm)).2 q hq rfl), h.ri.new, h.ri.sep, h.ri.tq⟩, ho, fun g hg2 => ?_, mk_keep h.mkd hgY (fun b hb => own_def h.own (hE b hb)), h.low, h.dnd⟩
  rcases hF with h3 | h3
  · exact h.apart g (h3 ▸ hg2)
  · rw [h3] at hg2
    have e : X.heap.size = g := Option.some.inj hg2
    refine ⟨fun hm => ?_, fun q hq e2 => ?_⟩
    · have := h.ri.is.lt g hm
      omega
    · have := h.ri.hq.lt q hq
      omega
theorem RJ.mark (h : RJ w X T0 T L tv xs ds) {D : Nat} (hD : X.heap[D]? = some (.deferred (some []))) (hl : w.heap.size ≤ D) (hn : D ∉ ds) : RJ w X T0 T L tv xs (D :: ds) :=
  ⟨h.ri, h.own, h.apart, fun E hE => by
    rcases List.mem_cons.1 hE with rfl | hE
    · exact hD
    · exact h.mkd E hE, fun E hE => by
    rcases List.mem_cons.1 hE with rfl | hE
    · exact hl
    · exact h.low E hE, List.nodup_cons.2 ⟨hn, h.dnd⟩⟩
end
section
variable {F : Fence} {n : Nat} {ops : Array Oper} {rest : List Oper} {Q : Exit → Act → World → Prop} {w X : World} {a : Act} {o : Oper} {T0 T : TT} {L : List (Nat × List Value)} {tv : Value} {xs : List Int} {ds : List Nat}
theorem bxJ {v : Value} {x : Operand} (t : TypeId) (cs : List Value) (hF : ∀ f, F.fn f) (hw : Region.wanted o (yielded ops a.tmps) = true) (hnd : ∀ c, o.op ≠ .defer c) (ho : o.op = .box t x) (hx : a.eval x = v) (hv : v.cells.toList = cs) (hc : 0 < cs.length) (hL : RJ w X T0 T L tv xs ds)
    (h : ∀ Y B, w.heap.size ≤ B → RJ w Y T0 T (L ++ [(B, cs)]) tv xs ds → wpListIn F n Tryd.prog ops Q rest (a.put o.dst (.pointer (some ⟨B, 0, none⟩))) Y) : wpListIn F n Tryd.prog ops Q (o :: rest) a X :=
  inV hF hw hnd (ex_box t cs ho hx hv) (h _ _ hL.fr.size (hL.box cs t hc))
theorem alJ {v : Value} (t : TypeId) (cs : List Value) (hF : ∀ f, F.fn f) (hw : Region.wanted o (yielded ops a.tmps) = true) (hnd : ∀ c, o.op ≠ .defer c) (ho : o.op = .alloc t) (hz : ∀ w, (zeroValue t).run Tryd.prog w = .ok v w) (hv : v.cells.toList = cs) (hc : 0 < cs.length) (hL : RJ w X T0 T L tv xs ds)
    (h : ∀ Y B, w.heap.size ≤ B → RJ w Y T0 T (L ++ [(B, cs)]) tv xs ds → wpListIn F n Tryd.prog ops Q rest (a.put o.dst (.pointer (some ⟨B, 0, none⟩))) Y) : wpListIn F n Tryd.prog ops Q (o :: rest) a X := by
  have ev : v.cells = cs.toArray := by rw [← hv]
  have he : (execOp a.eval o).run Tryd.prog X = .ok (.value (.pointer (some ⟨X.heap.size, 0, none⟩))) (X.alloc (Obj.cells cs.toArray t)) := by
    unfold execOp
    simp only [ho]
    simp [go_sem, hz]
    show X.alloc (Obj.cells v.cells t) = _
    rw [ev]
  exact inV hF hw hnd he (h _ _ hL.fr.size (hL.box cs t hc))
theorem stJ {b p : Nat} {cs vs : List Value} {v : Value} {x y : Operand} (i : Nat) (t : TypeId) (hF : ∀ f, F.fn f) (hw : Region.wanted o (yielded ops a.tmps) = true) (hnd : ∀ c, o.op ≠ .defer c) (ho : o.op = .store t x y) (hx : a.eval x = .pointer (some ⟨b, p, none⟩)) (hy : a.eval y = v) (hv : v.cells.toList = vs) (h1 : ∀ u ∈ vs, u.oneCell' = true) (hi : (Tryd.prog.info? t).map (·.size) = some vs.length) (hL : RJ w X T0 T L tv xs ds) (hl : L[i]? = some (b, cs)) (hp : p + vs.length ≤ cs.length) (hB : w.heap.size ≤ b)
    (h : ∀ Y, RJ w Y T0 T (L.set i (b, cput cs p vs)) tv xs ds → wpListIn F n Tryd.prog ops Q rest (a.put o.dst undef) Y) : wpListIn F n Tryd.prog ops Q (o :: rest) a X :=
  inS hF hw hnd (ex_store ho hx hy hv h1 hi (hL.get i hl) hp) (h _ (hL.put i hl p vs hp hB))
end
/-- Rows of acts. -/
def ReadsAC (w : World) (E : List Nat) (A : Option Addr) (l : List AC) : Prop := ∀ j x, l[j]? = some x → OkK x.k ∧ ∃ b off, A = some ⟨b, off, none⟩ ∧ b < w.heap.size ∧ b ∉ E ∧ w.rangeAt b (off + j * 23) x.cs
def ReadsAT (w : World) (E : List Nat) (A : Option Addr) (l : List AT) : Prop := ∀ j x, l[j]? = some x → OkK x.k ∧ ∃ b off IA ic, A = some ⟨b, off, none⟩ ∧ b < w.heap.size ∧ b ∉ E ∧ w.rangeAt b (off + j * 23) (actCs x.kd x.k x.d x.n (.slice IA x.il.length ic)) ∧ ReadsAC w E IA x.il
theorem rangeAt_frE {w X : World} {E : List Nat} {b p : Nat} {vs : List Value} (h : w.rangeAt b p vs) (hb : b < w.heap.size) (hn : b ∉ E) (hf : Fr w X E) : X.rangeAt b p vs := fun j v hv => by
  have e := h j v hv
  have hbl := hf.block b hb hn
  unfold World.cell? at e ⊢
  dsimp only at e ⊢
  rw [hbl]
  exact e
theorem actCs_length (kd : Int) (k : KK) (d : DD) (n : Int) (inner : Value) : (actCs kd k d n inner).length = 23 := rfl
/-- A range over an iterator with one loop variable in a box: range_by with what the assignment leaves said. -/
theorem range_one {σ α : Type} {F : Fence} {n : Nat} {g : Operand} {ps : Array Tmp} {assign body : Code} {Q : Exit → Act → World → Prop} {a : Act} {w : World}
    (hro : F.round = none) (h1 : 1 ≤ n) {gf : Nat} {lb : Array Value} (hg : a.eval g = .func (.func gf) #[] lb) (hFg : F.fn gf) (eg : ∀ args w, (callFunc gf args).run Tryd.prog w = .ok (.enter gf args) w)
    {encs : α → Array Value} {Tab : σ → World → Prop} {V : σ → α → Prop} {nx : σ → α → σ → Prop} {Fin : σ → Prop} {s0 : σ} {w0 : World} (hseq : SeqBy F (n - 1) Tryd.prog gf lb encs Tab V nx Fin s0 w0) (hb0 : Below w0.heap.size w0 w) (hps : ∀ x, (encs x).size = ps.size)
    (I : σ → World → Prop) (Ix : Code → World → Prop) (hIT : ∀ s X, I s X → Tab s X) (hI : OwnL w.heap.size I) (hIx : ∀ c, OwnL w.heap.size (fun (_ : Unit) W => Ix c W)) (h0 : I s0 w) (d : Tmp) (f : α → List Value) (hfl : ∀ x, 0 < (f x).length)
    (hassign : ∀ (l : Nat) (s : σ) (x : α) (W : World) (K : Act → World → Prop), I s W → V s x → (∀ B Y, KL W Y → I s Y → Holds Y B (f x) → K { tmps := ((ps.zip (encs x)).foldl (fun t (p, v) => t.setIfInBounds p v) a.tmps).setIfInBounds d (.pointer (some ⟨B, 0, none⟩)), defers := [] } Y) →
      assign.wpIn (F.inRound l) (n - 1 - 1) Tryd.prog (Exit.then K (fun _ _ _ => False)) { tmps := (ps.zip (encs x)).foldl (fun t (p, v) => t.setIfInBounds p v) a.tmps, defers := [] } W)
    (hbody : ∀ (l : Nat) (s : σ) (x : α) (B : Nat) (W : World), w.heap.size ≤ l → I s W → V s x → Holds W B (f x) → body.wpIn (F.inRound l) (n - 1 - 1) Tryd.prog (byPost w.heap.size I Ix nx s x W) { tmps := ((ps.zip (encs x)).foldl (fun t (p, v) => t.setIfInBounds p v) a.tmps).setIfInBounds d (.pointer (some ⟨B, 0, none⟩)), defers := [] } W)
    (hdone : ∀ (D : Nat) (s : σ) (W : World), w.heap.size ≤ D → Fin s → I s W → W.heap[D]? = some (.deferred (some [])) → Q .normal { a with defers := { target := .collected D, args := #[] } :: a.defers } W)
    (hstop : ∀ (D : Nat) (c : Code) (W : World), w.heap.size ≤ D → Ix c W → W.heap[D]? = some (.deferred (some [])) → c.wpIn F n Tryd.prog Q { a with defers := { target := .collected D, args := #[] } :: a.defers } W) :
    (Code.rangeFunc g ps assign body).wpIn F n Tryd.prog Q a w := by
  refine range_by hro h1 hg hFg eg hseq hb0 hps I Ix hIT hI hIx h0 (fun x a' W => ∃ B, a' = { tmps := ((ps.zip (encs x)).foldl (fun t (p, v) => t.setIfInBounds p v) a.tmps).setIfInBounds d (.pointer (some ⟨B, 0, none⟩)), defers := [] } ∧ Holds W B (f x)) ?_ ?_ ?_ hdone hstop
  · intro x a' _ A B row hs hgr hr
    obtain ⟨C, h2, h3⟩ := hs
    exact ⟨C, h2, holds_own h3 (hfl x) hgr (fun r e => (hr r e).2)⟩
  · intro l s x W K hi hv hk
    exact hassign l s x W K hi hv (fun B Y h2 h3 h4 => hk _ Y h2 h3 ⟨B, rfl, h4⟩)
  · rintro l s x a' W hl hi hv ⟨B, rfl, hH⟩
    exact hbody l s x B W hl hi hv hH
end Go.Proofs.YtmemceindohklaaDoor

/-! Regions within a round, by the laws for regions outside one. -/
namespace Go.Proofs.YtmemceindohklaaDoor
open Go Go.RowKit
set_option linter.unusedSimpArgs false
set_option linter.unusedVariables false
section
variable {n l : Nat} {P : Program} {ops : Array Oper} {Q : Exit → Act → World → Prop} {md : Region.Mode}
/-- No operation of the region defers. -/
def noDefer (ops : Array Oper) : Bool := ops.all fun o => match o.op with
  | .defer _ => false
  | _ => true
theorem noDefer_get (h : noDefer ops = true) {o : Oper} (ho : o ∈ ops) (c : Call) : o.op ≠ .defer c := by
  intro e
  have h1 := Array.all_eq_true_iff_forall_mem.1 h o ho
  rw [e] at h1
  cases h1
theorem rows_round {row : String} {args : Array Value} {w : World} {R : Value → World → Prop} (h : Rows P row args w R) : RowsIn (Fence.wide.inRound l) n P row args w R := by
  intro c cs hr
  obtain ⟨v, w', r, s⟩ := h c cs
  exact ⟨v, w', r, stepsIn_wide.2 s⟩
theorem op_round {o : Oper} {a : Act} {w : World} {K K' : Act → World → Prop} (hnd : ∀ c, o.op ≠ .defer c) (hQ : ¬ LetsOut Q) (hK : ∀ a w, K a w → K' a w) (h : o.wp P a w K Q) : o.wpIn (Fence.wide.inRound l) n P a w K' Q := by
  refine ⟨fun f _ => trivial, ?_⟩
  rw [show o.semAt (Fence.wide.inRound l).round a.eval = execOp a.eval o from Oper.semAt_some l _ _ hnd]
  unfold Oper.wp at h
  generalize (execOp a.eval o).run P w = r at *
  cases r with
  | ok x X =>
    cases x <;> simp only [Oper.upon] at h <;> simp only [Oper.uponIn]
    case value => exact hK _ _ h
    case skip => exact hK _ _ h
    case defer => exact hK _ _ h
    case enter f args =>
      refine ⟨(fun h2 => by cases h2), ?_⟩
      exact CallsIn.mono (callsIn_wide.2 h : CallsIn Fence.wide (n - 1) P f args X _) (fun e Y he => by cases e <;> first | exact hK _ _ he | exact he)
    case row row args =>
      exact ⟨(fun h2 => by cases h2), RowsIn.mono (rows_round h) (fun v Y he => hK _ _ he)⟩
  | halt x X => cases x <;> simp only [Oper.upon] at h <;> simp only [Oper.uponIn] <;> exact h
theorem any_round (hnd : noDefer ops = true) (hQ : ¬ LetsOut Q) : ∀ (fuel : Nat) (listed : Array Bool) (a : Act) (w : World), wpAny P md ops Q fuel listed a w → wpAnyIn (Fence.wide.inRound l) n P md ops Q fuel listed a w
  | 0, _, _, _, h => h
  | fuel + 1, listed, a, w, h => by
    refine ⟨h.1, fun i hi => ?_⟩
    have h2 := h.2 i hi
    unfold wpOp at h2
    unfold wpOpIn
    cases ho : ops[i]? with
    | none =>
      simp only [ho] at h2 ⊢
      exact any_round hnd hQ fuel _ _ _ h2
    | some o =>
      simp only [ho] at h2 ⊢
      split
      · rename_i hw
        rw [if_pos hw] at h2
        rcases h2 with h2 | ⟨-, h2⟩
        · exact op_round (noDefer_get hnd (Array.mem_of_getElem? ho)) hQ (fun a w h3 => any_round hnd hQ fuel _ _ _ h3) h2
        · exact absurd h2 hQ
      · rename_i hw
        rw [if_neg hw] at h2
        exact ⟨fun f _ => trivial, any_round hnd hQ fuel _ _ _ h2⟩
/-- A region that draws its order, within a round. -/
theorem region_round {id : Nat} {S : World → Prop} {a : Act} {w : World} (hm : P.follows .mixedOrders = true) (hnd : noDefer ops = true) (hQ : ¬ LetsOut Q) (h : wpAnyH P .any ops Q S ops.size (Array.replicate ops.size false) a w.drew) : (Code.region id ops true).wpIn (Fence.wide.inRound l) n P Q a w :=
  wpIn_region_any hm (any_round hnd hQ _ _ _ _ (wpAny_of_held _ _ _ _ h))
theorem list_round (hQ : ¬ LetsOut Q) : ∀ (rest : List Oper) (a : Act) (w : World), (∀ o ∈ rest, ∀ c, o.op ≠ .defer c) → wpList P ops Q rest a w → wpListIn (Fence.wide.inRound l) n P ops Q rest a w
  | [], _, _, _, h => h
  | o :: rest, a, w, hnd, h => by
    unfold wpList at h
    unfold wpListIn
    split
    · rename_i hw
      rw [if_pos hw] at h
      rcases h with h | ⟨-, h⟩
      · exact op_round (hnd o (List.mem_cons_self ..)) hQ (fun a w h3 => list_round hQ rest a w (fun q hq => hnd q (List.mem_cons_of_mem _ hq)) h3) h
      · exact absurd h hQ
    · rename_i hw
      rw [if_neg hw] at h
      exact ⟨fun f _ => trivial, list_round hQ rest _ w (fun q hq => hnd q (List.mem_cons_of_mem _ hq)) h⟩
/-- A region in its written order, within a round. -/
theorem plain_round {id : Nat} {rest : List Oper} {a : Act} {w : World} (hnd : noDefer rest.toArray = true) (hQ : ¬ LetsOut Q) (h : wpList P rest.toArray Q rest a w) : (Code.region id rest.toArray false).wpIn (Fence.wide.inRound l) n P Q a w :=
  wpIn_region_lit (list_round hQ rest a w (fun o ho => noDefer_get hnd (by simpa using ho)) h)
end
/-- The marks of ranges that have ended: blocks of deferred calls with nothing in them. -/
def marks (ds : List Nat) : List Deferred := ds.map fun D => { target := .collected D, args := #[] }
end Go.Proofs.YtmemceindohklaaDoor

/-! Rg -/
namespace Go.Proofs.YtmemceindohklaaDoor
open Go Go.Proofs Go.Maps Go.RowKit
set_option linter.unusedSimpArgs false
set_option linter.unusedVariables false
set_option maxHeartbeats 1000000
section
variable {ops : Array Oper} {rest : List Oper} {Q : Exit → Act → World → Prop} {w X : World} {a : Act} {o : Oper} {T0 T : TT} {L : List (Nat × List Value)} {tv : Value} {xs : List Int} {ds : List Nat}
theorem vl {V : Value} {Y : World} (hw : Region.wanted o (yielded ops a.tmps) = true) (hy : (execOp a.eval o).run Tryd.prog X = .ok (.value V) Y) (h : wpList Tryd.prog ops Q rest (a.put o.dst V) Y) : wpList Tryd.prog ops Q (o :: rest) a X := by
  refine BigFrame.wpList_want hw fun K hK => ?_
  have hP := hK _ _ h
  unfold Oper.wp
  rw [hy]
  exact hP
theorem skv {Y : World} (hw : Region.wanted o (yielded ops a.tmps) = true) (hy : (execOp a.eval o).run Tryd.prog X = .ok .skip Y) (h : wpList Tryd.prog ops Q rest (a.put o.dst undef) Y) : wpList Tryd.prog ops Q (o :: rest) a X := by
  refine BigFrame.wpList_want hw fun K hK => ?_
  have hP := hK _ _ h
  unfold Oper.wp
  rw [hy]
  exact hP
theorem bxK {v : Value} {x : Operand} (t : TypeId) (cs : List Value) (hw : Region.wanted o (yielded ops a.tmps) = true) (ho : o.op = .box t x) (hx : a.eval x = v) (hv : v.cells.toList = cs) (hc : 0 < cs.length) (hL : RJ w X T0 T L tv xs ds)
    (h : ∀ Y B, w.heap.size ≤ B → RJ w Y T0 T (L ++ [(B, cs)]) tv xs ds → wpList Tryd.prog ops Q rest (a.put o.dst (.pointer (some ⟨B, 0, none⟩))) Y) : wpList Tryd.prog ops Q (o :: rest) a X :=
  vl hw (ex_box t cs ho hx hv) (h _ _ hL.fr.size (hL.box cs t hc))
theorem alK {v : Value} (t : TypeId) (cs : List Value) (hw : Region.wanted o (yielded ops a.tmps) = true) (ho : o.op = .alloc t) (hz : ∀ w, (zeroValue t).run Tryd.prog w = .ok v w) (hv : v.cells.toList = cs) (hc : 0 < cs.length) (hL : RJ w X T0 T L tv xs ds)
    (h : ∀ Y B, w.heap.size ≤ B → RJ w Y T0 T (L ++ [(B, cs)]) tv xs ds → wpList Tryd.prog ops Q rest (a.put o.dst (.pointer (some ⟨B, 0, none⟩))) Y) : wpList Tryd.prog ops Q (o :: rest) a X := by
  have ev : v.cells = cs.toArray := by rw [← hv]
  have he : (execOp a.eval o).run Tryd.prog X = .ok (.value (.pointer (some ⟨X.heap.size, 0, none⟩))) (X.alloc (Obj.cells cs.toArray t)) := by
    unfold execOp
    simp only [ho]
    simp [go_sem, hz]
    show X.alloc (Obj.cells v.cells t) = _
    rw [ev]
  exact vl hw he (h _ _ hL.fr.size (hL.box cs t hc))
theorem stK {b p : Nat} {cs vs : List Value} {v : Value} {x y : Operand} (i : Nat) (t : TypeId) (hw : Region.wanted o (yielded ops a.tmps) = true) (ho : o.op = .store t x y) (hx : a.eval x = .pointer (some ⟨b, p, none⟩)) (hy : a.eval y = v) (hv : v.cells.toList = vs) (h1 : ∀ u ∈ vs, u.oneCell' = true) (hi : (Tryd.prog.info? t).map (·.size) = some vs.length) (hL : RJ w X T0 T L tv xs ds) (hl : L[i]? = some (b, cs)) (hp : p + vs.length ≤ cs.length) (hB : w.heap.size ≤ b)
    (h : ∀ Y, RJ w Y T0 T (L.set i (b, cput cs p vs)) tv xs ds → wpList Tryd.prog ops Q rest (a.put o.dst undef) Y) : wpList Tryd.prog ops Q (o :: rest) a X :=
  skv hw (ex_store ho hx hy hv h1 hi (hL.get i hl) hp) (h _ (hL.put i hl p vs hp hB))
theorem ex_lenG {o : Oper} {a : Act} {w : World} {m : Operand} {A : Option Addr} {n c : Nat} (t e : TypeId) (ht : Tryd.prog.underlying t = some (.slice e)) (ho : o.op = .call { callee := .builtin .len, args := #[m], argTypes := #[t] }) (hm : a.eval m = .slice A n c) : (execOp a.eval o).run Tryd.prog w = .ok (.value (.int .i64 (n : Nat))) w := by
  simp [execOp, ho, resolve, invoke, builtin, hm, Builtin.len_, Result.andThen, goInt, ht, run_underlying ht]
theorem ex_indexG {o : Oper} {a : Act} {w : World} {x ix : Operand} {g off n cap : Nat} (t : TypeId) (sz j : Nat) (hk : Tryd.prog.underlying t = some (.slice (Tryd.prog.elem t))) (he : ∀ w, (sizeOf (Tryd.prog.elem t)).run Tryd.prog w = .ok sz w) (ho : o.op = .indexAddr t x ix) (hx : a.eval x = .slice (some ⟨g, off, none⟩) n cap) (hix : a.eval ix = .int .i64 (j : Nat)) (hj : j < n) : (execOp a.eval o).run Tryd.prog w = .ok (.value (.pointer (some ⟨g, off + j * sz, none⟩))) w := by
  have h1 : (Instr.indexAt t (.slice (some ⟨g, off, none⟩) n cap) (.int .i64 (j : Nat))).run Tryd.prog w = .ok (.pointer (some ⟨g, off + j * sz, none⟩)) w := by
    rw [run_indexAt_slice (h := hk), if_pos ⟨by omega, by omega⟩, he]
    have e2 : (Addr.add ⟨g, off, none⟩ ((j : Int).toNat * sz)) = ⟨g, off + j * sz, none⟩ := by
      rw [Addr.add_mid]
      simp
    show Result.ok (Value.pointer (some (Addr.add ⟨g, off, none⟩ ((j : Int).toNat * sz)))) w = _
    rw [e2]
  unfold execOp
  simp only [ho, hx, hix]
  simp [h1]
end
theorem und22 : Tryd.prog.underlying 22 = some (.slice (Tryd.prog.elem 22)) := by kernel_rfl
theorem idx22 (w : World) : (sizeOf (Tryd.prog.elem 22)).run Tryd.prog w = .ok 23 w := by kernel_rfl
theorem act_one (kd : Int) (k : KK) (d : DD) (n : Int) (A : Option Addr) (m c : Nat) : ∀ u ∈ actCs kd k d n (.slice A m c), u.oneCell' = true := by simp [actCs, KK.cs, DD.cs, VV.cs, Value.oneCell']
def zeroAct : List Value := actCs 0 zeroK zeroD 0 (.slice none 0 0)
theorem act_put (kd : Int) (k : KK) (d : DD) (n : Int) (v : Value) : cput zeroAct 0 (actCs kd k d n v) = actCs kd k d n v := by simp [cput, zeroAct, actCs, KK.cs, DD.cs, VV.cs]
theorem lets_then {K : Act → World → Prop} {Q : Exit → Act → World → Prop} (h : ¬ LetsOut Q) : ¬ LetsOut (Exit.then K Q) := fun ⟨a, w, hq⟩ => h ⟨a, w, hq⟩
/-- All marks are taken: nothing was deferred. -/
theorem leaves_marks {fn : Func} {tmps : Array Value} {R : Ending → World → Prop} {n : Nat} : ∀ (ds : List Nat) (W : World), ds.Nodup → (∀ D ∈ ds, W.heap[D]? = some (.deferred (some []))) →
    (∀ Y, Fr W Y ds → LeavesInM Fence.wide n Tryd.prog fn tmps R [] .returning Y) → LeavesInM Fence.wide n Tryd.prog fn tmps R (marks ds) .returning W
  | [], W, _, _, h => h W (Fr.refl _ _)
  | D :: ds, W, hnd, hD, h => by
    have hK := hD D (List.mem_cons_self ..)
    obtain ⟨h1, h2⟩ := List.nodup_cons.1 hnd
    refine ⟨by simp, .inl ⟨_, _, rfl, run_takeDeferred hK, ?_⟩⟩
    refine leaves_marks ds _ h2 (fun E hE => ?_) (fun Y hY => h Y ?_)
    · have hne : E ≠ D := fun e => h1 (e ▸ hE)
      exact (World.putObj_heap_other hne).trans (hD E (List.mem_cons_of_mem _ hE))
    · have hg := Fr.grown (grownBy_putObj' W D (.deferred none))
      exact (hg.mono (E' := D :: ds) (fun b hb => .inl (by have : b = D := (by simpa using hb); simp [this]))).trans hY (fun b hb => .inl (List.mem_cons_of_mem _ hb))
end Go.Proofs.YtmemceindohklaaDoor

/-! Ri -/
namespace Go.Proofs.YtmemceindohklaaDoor
open Go Go.Proofs Go.Maps Go.RowKit
set_option linter.unusedSimpArgs false
set_option linter.unusedVariables false
set_option maxHeartbeats 1000000
/-- A loop's record. -/
def NM (o : Obj) : Prop := ∃ q, o = .loop q
theorem cell_nm {X : World} {a : Addr} {v : Value} {o : Obj} (h : X.cell? a = some v) (ho : X.heap[a.block]? = some o) : ¬ NM o := by
  rintro ⟨q, rfl⟩
  simp [World.cell?, ho] at h
theorem hold_nm {X : World} {b : Nat} {cs : List Value} {o : Obj} (h : Holds X b cs) (hc : 0 < cs.length) (ho : X.heap[b]? = some o) : ¬ NM o := cell_nm (h.cell 0 (List.getElem?_eq_getElem hc)) ho
theorem own_nm {X : World} {base e s n : Nat} {v : Value} {ys : List Value} (h : X.ownsRow base e s v n ys) {g : Nat} {o : Obj} (hg : v.ownBlock = some g) (ho : X.heap[g]? = some o) : ¬ NM o := by
  rcases h.2 with ⟨h1, h2⟩ | ⟨g', cap, cur, h1, h3, h4, h5⟩
  · rw [h1] at hg
    cases hg
  · rw [h1] at hg
    obtain rfl : g' = g := Option.some.inj hg
    rw [h4] at ho
    cases ho
    rintro ⟨q, h6⟩
    cases h6
theorem tab_nm {X : World} {T : TT} (h : T.Is X) {b : Nat} {o : Obj} (hb : b ∈ T.blocks) (ho : X.heap[b]? = some o) : ¬ NM o := by
  simp only [TT.blocks, List.mem_cons, List.mem_append, List.mem_map] at hb
  rcases hb with rfl | rfl | hb | ⟨r, hr, rfl⟩
  · exact hold_nm h.tab (by simp [TT.cs]) ho
  · obtain ⟨D, ⟨es, clock, hm, _⟩, _⟩ := h.map
    rw [hm] at ho
    cases ho
    rintro ⟨q, h6⟩
    cases h6
  · exact own_nm h.own (by simpa using hb) ho
  · exact hold_nm (h.rows r hr) (by simp [rcs_length]) ho
section
variable {w X Y : World} {T0 T : TT} {L : List (Nat × List Value)} {tv : Value} {xs : List Int} {ds : List Nat}
theorem grown_fr {row : Option Nat} (hg : X.grownBy Y row) : Fr X Y row.toList := Fr.grown hg
theorem RJ.grownL {row : Option Nat} (h : RJ w X T0 T L tv xs ds) (hg : X.grownBy Y row) (hr : ∀ r, row = some r → w.heap.size ≤ r ∧ ∃ o : Obj, X.heap[r]? = some o ∧ NM o) : RJ w Y T0 T L tv xs ds := by
  have hf : Fr X Y row.toList := Fr.grown hg
  have hE : ∀ b, b ∈ row.toList → row = some b := fun b hb => by simpa using hb
  refine ⟨⟨h.ri.is.block (fun b hb => hf.block b (h.ri.is.lt b hb) (fun hm => ?_)), h.ri.hq.step hf (fun b hb => .inr (hr b (hE b hb)).1) (fun q hq hm => ?_), h.ri.new, h.ri.sep, h.ri.tq⟩, own_keep h.own (fun g hg2 => hf.block g (World.ownsRow.lt h.own g hg2).2 (fun hm => ?_)), h.apart, fun D hD => (hf.block D (Array.getElem?_eq_some_iff.1 (h.mkd D hD)).1 (fun hm => ?_)).trans (h.mkd D hD), h.low, h.dnd⟩
  · obtain ⟨-, o, h1, h2⟩ := hr b (hE b hm)
    exact tab_nm h.ri.is hb h1 h2
  · obtain ⟨-, o, h1, h2⟩ := hr q.1 (hE _ hm)
    exact hold_nm (h.ri.hq.all q hq).1 (h.ri.hq.all q hq).2 h1 h2
  · obtain ⟨-, o, h1, h2⟩ := hr g (hE _ hm)
    exact own_nm h.own hg2 h1 h2
  · obtain ⟨-, o, h1, h2⟩ := hr D (hE _ hm)
    rw [h.mkd D hD] at h1
    cases h1
    obtain ⟨q, h6⟩ := h2
    cases h6
theorem cell_grownL {row : Option Nat} {a : Addr} {v : Value} (h : X.cell? a = some v) (hg : X.grownBy Y row) (hr : ∀ r, row = some r → ∃ o : Obj, X.heap[r]? = some o ∧ NM o) : Y.cell? a = some v := by
  have hlt : a.block < X.heap.size := by
    rcases Nat.lt_or_ge a.block X.heap.size with h1 | h1
    · exact h1
    · have e : X.heap[a.block]? = none := Array.getElem?_eq_none h1
      simp [World.cell?, e] at h
  refine (World.cell?_of_block ((Fr.grown hg).block a.block hlt (fun hm => ?_))).trans h
  obtain ⟨o, h1, h2⟩ := hr a.block (by simpa using hm)
  exact cell_nm h h1 h2
theorem eachJ (hL : RJ w X T0 T L tv xs ds) : Calls Tryd.prog 18 #[.pointer (some ⟨T0.t, 0, none⟩)] X fun e Y => ∃ Bn, w.heap.size ≤ Bn ∧ e = .returned (.func (.func 32) #[] #[.pointer (some ⟨Bn, 0, none⟩)]) ∧ RJ w Y T0 T (L ++ [(Bn, [.pointer (some ⟨T0.t, 0, none⟩)])]) tv xs ds := by
  have h := each41 T X
  rw [hL.ri.tq] at h
  refine h.mono ?_
  rintro _ Y ⟨rfl, rfl⟩
  exact ⟨X.heap.size, hL.fr.size, rfl, hL.box _ 29 (Nat.succ_pos _)⟩
end
theorem cell_ld {X : World} {a : Addr} {v : Value} {o : Obj} (h : X.cell? a = some v) (ho : X.heap[a.block]? = some o) : ¬ LD o := by
  rintro (⟨q, rfl⟩ | ⟨q, rfl⟩) <;> simp [World.cell?, ho] at h
theorem hold_ld {X : World} {b : Nat} {cs : List Value} {o : Obj} (h : Holds X b cs) (hc : 0 < cs.length) (ho : X.heap[b]? = some o) : ¬ LD o := cell_ld (h.cell 0 (List.getElem?_eq_getElem hc)) ho
theorem own_ld {X : World} {base e s n : Nat} {v : Value} {ys : List Value} (h : X.ownsRow base e s v n ys) {g : Nat} {o : Obj} (hg : v.ownBlock = some g) (ho : X.heap[g]? = some o) : ¬ LD o := by
  rcases h.2 with ⟨h1, h2⟩ | ⟨g', cap, cur, h1, h3, h4, h5⟩
  · rw [h1] at hg
    cases hg
  · rw [h1] at hg
    obtain rfl : g' = g := Option.some.inj hg
    rw [h4] at ho
    cases ho
    rintro (⟨q, h6⟩ | ⟨q, h6⟩) <;> cases h6
theorem tab_ld {X : World} {T : TT} (h : T.Is X) {b : Nat} {o : Obj} (hb : b ∈ T.blocks) (ho : X.heap[b]? = some o) : ¬ LD o := by
  simp only [TT.blocks, List.mem_cons, List.mem_append, List.mem_map] at hb
  rcases hb with rfl | rfl | hb | ⟨r, hr, rfl⟩
  · exact hold_ld h.tab (by simp [TT.cs]) ho
  · obtain ⟨D, ⟨es, clock, hm, _⟩, _⟩ := h.map
    rw [hm] at ho
    cases ho
    rintro (⟨q, h6⟩ | ⟨q, h6⟩) <;> cases h6
  · exact own_ld h.own (by simpa using hb) ho
  · exact hold_ld (h.rows r hr) (by simp [rcs_length]) ho
theorem kl_fr {X Y : World} {E : List Nat} (hf : Fr X Y E) (hE : ∀ b ∈ E, ∀ o, X.heap[b]? = some o → ¬ LD o) : KL X Y := fun k o h1 h2 =>
  (hf.block k (Array.getElem?_eq_some_iff.1 h1).1 (fun hm => hE k hm o h1 h2)).trans h1
/-- The table at work in a round: and what is of loops lies as it lay. -/
structure RK (w W0 X : World) (T0 T : TT) (L : List (Nat × List Value)) (tv : Value) (xs : List Int) (ds : List Nat) : Prop where
  rj : RJ w X T0 T L tv xs ds
  kl : KL W0 X
section
variable {w W0 X Y : World} {T0 T T' : TT} {L : List (Nat × List Value)} {tv : Value} {xs : List Int} {ds : List Nat}
theorem RK.get (h : RK w W0 X T0 T L tv xs ds) (i : Nat) {b : Nat} {cs : List Value} (hi : L[i]? = some (b, cs)) : Holds X b cs := h.rj.get i hi
theorem RK.on (h : RK w W0 X T0 T L tv xs ds) (k : Below X.heap.size X Y) : RK w W0 Y T0 T L tv xs ds := ⟨h.rj.on k, h.kl.trans (kl_fr (Fr.of_below k []) (by simp))⟩
theorem RK.step (h : RK w W0 X T0 T L tv xs ds) (hT : T'.Is Y) (ht : T'.t = T.t) (hf : Fr X Y T.blocks) (hb : ∀ b ∈ T'.blocks, b ∈ T.blocks ∨ X.heap.size ≤ b) : RK w W0 Y T0 T' L tv xs ds :=
  ⟨h.rj.step hT ht hf hb, h.kl.trans (kl_fr hf (fun b hb o ho => tab_ld h.rj.ri.is hb ho))⟩
theorem RK.put (h : RK w W0 X T0 T L tv xs ds) (i : Nat) {b : Nat} {cs : List Value} (hi : L[i]? = some (b, cs)) (p : Nat) (vs : List Value) (hp : p + vs.length ≤ cs.length) (hE : w.heap.size ≤ b) : RK w W0 (X.setCells b p vs) T0 T (L.set i (b, cput cs p vs)) tv xs ds :=
  ⟨h.rj.put i hi p vs hp hE, h.kl.trans (kl_fr (Fr.setCells X b p vs) (fun c hc o ho => by
    obtain rfl : c = b := by simpa using hc
    exact hold_ld (h.get i hi) (h.rj.ri.hq.all _ (List.mem_of_getElem? hi)).2 ho))⟩
theorem stR {F : Fence} {n : Nat} {ops : Array Oper} {rest : List Oper} {Q : Exit → Act → World → Prop} {a : Act} {o : Oper} {b p : Nat} {cs vs : List Value} {v : Value} {x y : Operand} (i : Nat) (t : TypeId) (hF : ∀ f, F.fn f) (hw : Region.wanted o (yielded ops a.tmps) = true) (hnd : ∀ c, o.op ≠ .defer c) (ho : o.op = .store t x y) (hx : a.eval x = .pointer (some ⟨b, p, none⟩)) (hy : a.eval y = v) (hv : v.cells.toList = vs) (h1 : ∀ u ∈ vs, u.oneCell' = true) (hi : (Tryd.prog.info? t).map (·.size) = some vs.length) (hL : RK w W0 X T0 T L tv xs ds) (hl : L[i]? = some (b, cs)) (hp : p + vs.length ≤ cs.length) (hB : w.heap.size ≤ b)
    (h : ∀ Y, RK w W0 Y T0 T (L.set i (b, cput cs p vs)) tv xs ds → Fr X Y [b] → wpListIn F n Tryd.prog ops Q rest (a.put o.dst undef) Y) : wpListIn F n Tryd.prog ops Q (o :: rest) a X :=
  inS hF hw hnd (ex_store ho hx hy hv h1 hi (hL.get i hl) hp) (h _ (hL.put i hl p vs hp hB) (Fr.setCells X b p vs))
end
theorem put_num {T T' : TT} {k : KK} {d : DD} {W : World} {r : RR} (h : PutT T k d T') (hT : T'.Is W) (hr : r ∈ T.rows) : W.cell? ⟨r.b, 20, none⟩ = some (.int .u64 (r.n : Nat)) := by
  rcases h with ⟨q, h1, rfl⟩ | ⟨h1, h2, rv, R, rfl⟩ | ⟨h1, h2, rfl⟩
  · have hm : updR q.b d r ∈ (T.upd q.b d).rows := List.mem_map.2 ⟨r, hr, rfl⟩
    have h3 := num_cell (hT.rows _ hm)
    rwa [(updR_b q.b d r).1, (updR_b q.b d r).2.2.1] at h3
  · exact num_cell (hT.rows r (List.mem_append_left _ hr))
  · exact num_cell (hT.rows r hr)
/-- Between two rounds of a walk. -/
def W9 (w : World) (T : TT) (il : List AC) (L : Int → Int → List (Nat × List Value)) (tv : Value) (xs : List Int) (ds : List Nat) (FIN : WA) (s : WS) (W : World) : Prop :=
  ∃ wa : WA, RJ w W T s.T (L wa.n wa.at) tv xs ds ∧ abs s.T = wa.s ∧ wa.m = s.m ∧ s.left + wa.at = 201 ∧ wa.at ≤ 200 ∧ walkA il s.left wa = FIN ∧ s.T.last + s.left < 99300 ∧ s.m ≤ s.T.last ∧ ∀ b, s.rb = some b → W.cell? ⟨b, 20, none⟩ = some (.int .u64 (s.m : Nat))
/-- A walk that has ended. -/
def X9 (w : World) (T : TT) (L : Int → Int → List (Nat × List Value)) (tv : Value) (xs : List Int) (ds : List Nat) (FIN : WA) (W : World) : Prop :=
  ∃ T2 : TT, RJ w W T T2 (L FIN.n FIN.at) tv xs ds ∧ abs T2 = FIN.s
section
variable {w : World} {T : TT} {il : List AC} {L : Int → Int → List (Nat × List Value)} {tv : Value} {xs : List Int} {ds : List Nat} {FIN : WA} {B : Nat}
theorem W9.ownL (hB : w.heap.size ≤ B) : OwnL B (W9 w T il L tv xs ds FIN) := fun s X Y row hs hg hr => by
  obtain ⟨wa, h1, h2, h3, h4, h5, h6, h7, h8, h9⟩ := hs
  refine ⟨wa, h1.grownL hg (fun r e => ⟨Nat.le_trans hB (hr r e).1, (hr r e).2⟩), h2, h3, h4, h5, h6, h7, h8, fun b hb => cell_grownL (h9 b hb) hg (fun r e => (hr r e).2)⟩
theorem X9.ownL (hB : w.heap.size ≤ B) : OwnL B (fun (_ : Unit) W => X9 w T L tv xs ds FIN W) := fun s X Y row hs hg hr => by
  obtain ⟨T2, h1, h2⟩ := hs
  exact ⟨T2, h1.grownL hg (fun r e => ⟨Nat.le_trans hB (hr r e).1, (hr r e).2⟩), h2⟩
theorem W9.tab {s : WS} {W : World} {Bn : Nat} {i : Nat} (hb : ∀ n a, (L n a)[i]? = some (Bn, [.pointer (some ⟨T.t, 0, none⟩)])) (h : W9 w T il L tv xs ds FIN s W) : WTab T.t Bn s W := by
  obtain ⟨wa, h1, h2, h3, h4, h5, h6, h7, h8, h9⟩ := h
  exact ⟨h1.ri.is, h1.ri.tq, by omega, h8, (h1.get i (hb _ _)).cell 0 rfl, h9⟩
/-- At its end a walk is where its model ends. -/
theorem W9.fin {s : WS} {W : World} (h : W9 w T il L tv xs ds FIN s W) (hf : WF s) : X9 w T L tv xs ds FIN W := by
  obtain ⟨wa, h1, h2, h3, h4, h5, h6, h7, h8, h9⟩ := h
  have hn : wa.s.next wa.m = none := by
    rw [← h2, h3, abs_next]
    unfold WF at hf
    rw [hf]
    rfl
  have e : FIN = wa := by
    rw [← h6]
    obtain ⟨f, hfl⟩ : ∃ f, s.left = f + 1 := ⟨s.left - 1, by omega⟩
    rw [hfl]
    unfold walkA
    rw [hn]
  subst e
  exact ⟨s.T, h1, h2⟩
theorem step_fin {s : WS} {wa : WA} {r : RR} (h2 : abs s.T = wa.s) (h3 : wa.m = s.m) (h4 : s.left + wa.at = 201) (h5 : wa.at ≤ 200) (h6 : walkA il s.left wa = FIN) (hv : WV s r) :
    (if 200 < wa.at + 1 then stepA il wa (enOf r) else walkA il (s.left - 1) (stepA il wa (enOf r))) = FIN := by
  have hn : wa.s.next wa.m = some (enOf r) := by
    rw [← h2, h3, abs_next]
    unfold WV at hv
    rw [hv]
    rfl
  rw [← h6]
  obtain ⟨f, hfl⟩ : ∃ f, s.left = f + 1 := ⟨s.left - 1, by omega⟩
  rw [hfl]
  conv => rhs; unfold walkA
  rw [hn]
  rfl
end
end Go.Proofs.YtmemceindohklaaDoor
