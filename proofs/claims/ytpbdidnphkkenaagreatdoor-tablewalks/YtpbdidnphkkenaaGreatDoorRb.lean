import Derived.Test.YtpbdidnphkkenaaGreatDoorRa
set_option linter.all false
namespace Go.Proofs.YtpbdidnphkkenaaGreatDoor
set_option maxHeartbeats 1000000
section
open Go Go.Proofs Go.Maps Go.RowKit
theorem flat_getG {α : Type} (f : α → List Value) (s : Nat) (hs : ∀ x, (f x).length = s) : ∀ (l : List α) (j t : Nat) (hj : j < l.length), t < s → (l.flatMap f)[j * s + t]? = (f l[j])[t]?
  | [], j, t, hj, _ => by simp at hj
  | x :: l, 0, t, hj, ht => by
    simp only [List.flatMap_cons, Nat.zero_mul, Nat.zero_add, List.getElem_cons_zero]
    rw [List.getElem?_append_left (by rw [hs]; exact ht)]
  | x :: l, j + 1, t, hj, ht => by
    simp only [List.flatMap_cons, List.getElem_cons_succ]
    rw [List.getElem?_append_right (by rw [hs, Nat.succ_mul]; omega), hs, show (j + 1) * s + t - s = j * s + t by rw [Nat.succ_mul]; omega]
    exact flat_getG f s hs l j t (by simpa using hj) ht
theorem own_rows {α : Type} {f : α → List Value} {s : Nat} (hs : ∀ x, (f x).length = s) {w : World} {base e g c n : Nat} {l : List α} (h : w.ownsRow base e s (.slice (some ⟨g, 0, none⟩) n c) n (l.flatMap f)) : ∀ j, (hj : j < l.length) → w.rangeAt g (j * s) (f l[j]) := by
  intro j hj i v hv
  have hi : i < s := by rw [← hs l[j]]; exact (List.getElem?_eq_some_iff.1 hv).1
  have h1 := flat_getG f s hs l j i hj hi
  rw [hv] at h1
  have h2 := h.cells (g := g) rfl (j * s + i) v h1
  rw [Addr.add_mid] at h2
  simpa using h2
theorem sameProps31 (v u : Value) (b1 b2 : Nat) (l : List (KK × DD)) (w : World) (h1 : w.ownsRow b1 58 20 v l.length (flatP l)) (h2 : w.ownsRow b2 58 20 u l.length (flatP l)) (hl : l.length ≤ 3000000) : Calls Tryz.prog 31 #[v, u] w fun e w' => e = .returned (.bool true) ∧ Below w.heap.size w w' := by
  have hf : ∀ x : KK × DD, ((fun x : KK × DD => x.1.cs ++ x.2.cs) x).length = 20 := fun _ => rfl
  rcases h1.2 with ⟨rfl, h0⟩ | ⟨g, cap, cur, rfl, hg1, hg2, -⟩
  · obtain ⟨A, c, rfl⟩ := own_form h2
    rw [h0]
    exact nil_props31 _ _ _ _ w
  · rcases h2.2 with ⟨rfl, h0⟩ | ⟨g2, cap2, cur2, rfl, hg3, hg4, -⟩
    · rw [h0]
      exact nil_props31 _ _ _ _ w
    · exact same_propsR g cap g2 cap2 l w (own_rows hf h1) (own_rows hf h2) (Array.getElem?_eq_some_iff.1 hg2).1 (Array.getElem?_eq_some_iff.1 hg4).1 hl
theorem eql33 (a b : KK) (w : World) : (binOp .eql 33 a.agg b.agg).run Tryz.prog w = .ok (.bool (decide (a = b))) w := by
  unfold KK.agg
  have ht : Tryz.prog.underlying 33 = some (.struct (Tryz.prog.fieldsOf 33)) := by kernel_rfl
  rw [run_eql_struct, show (10000 : Nat) = 9998 + 1 + 1 from rfl, run_equalIn_struct _ _ _ _ _ ht (by kernel_rfl)]
  have hf : Tryz.prog.fieldsOf 33 = (match Tryz.prog.underlying 33 with | some (.struct f) => f | _ => #[]) := by kernel_rfl
  rw [hf, Tryz.underlying33]
  simp [Op.eqFields, go_sem, part]
  by_cases h1 : a.s.toList = b.s.toList
  · by_cases h2 : a.n = b.n
    · rw [if_pos h1, if_pos h2, decide_eq_true (KK.ext' (toList_inj h1) h2)]
    · rw [if_pos h1, if_neg h2, decide_eq_false (fun e : a = b => h2 (congrArg KK.n e))]
  · rw [if_neg h1, decide_eq_false (fun e : a = b => h1 (congrArg (fun z : KK => z.s.toList) e))]
/-! The document's table. -/
structure EE where
  k : KK
  d : DD
  n : Int
def EE.cs (x : EE) : List Value := x.k.cs ++ (x.d.cs ++ [.int .i64 x.n])
def flatE (l : List EE) : List Value := l.flatMap EE.cs
structure RT where
  t : Nat
  lv : Value
  es : List EE
  nx : Int
def RT.cs (R : RT) : List Value := [R.lv, .int .i64 R.nx]
def RT.blocks (R : RT) : List Nat := R.t :: R.lv.ownBlock.toList
structure RT.Is (R : RT) (W : World) : Prop where
  tab : Holds W R.t R.cs
  own : W.ownsRow 0 82 21 R.lv R.es.length (flatE R.es)
  nd : R.blocks.Nodup
theorem RT.Is.lt {R : RT} {W : World} (h : R.Is W) : ∀ b ∈ R.blocks, b < W.heap.size := by
  intro b hb
  simp only [RT.blocks, List.mem_cons] at hb
  rcases hb with rfl | hb
  · exact h.tab.lt (by simp [RT.cs])
  · exact (World.ownsRow.lt h.own b (by simpa using hb)).2
theorem RT.Is.block {R : RT} {W W' : World} (h : R.Is W) (he : ∀ b ∈ R.blocks, W'.heap[b]? = W.heap[b]?) : R.Is W' :=
  ⟨h.tab.block (he _ (by simp [RT.blocks])), own_block h.own (fun g hg => he g (by simp [RT.blocks, hg])), h.nd⟩
theorem RT.Is.on {R : RT} {W W' : World} (h : R.Is W) (hb : Below W.heap.size W W') : R.Is W' := h.block (fun b hb' => hb.block b (h.lt b hb'))
theorem RT.Is.drew {R : RT} {W : World} (h : R.Is W) : R.Is W.drew := h.block (fun _ _ => rfl)
theorem RT.Is.fr {R : RT} {W W' : World} {E : List Nat} (h : R.Is W) (hb : Fr W W' E) (hE : ∀ b ∈ R.blocks, b ∉ E) : R.Is W' := h.block (fun b hb' => hb.block b (h.lt b hb') (hE b hb'))
theorem index46 (g n cap j : Nat) (hj : j < n) (w : World) : (Instr.indexAt 46 (.slice (some ⟨g, 0, none⟩) n cap) (.int .i64 j)).run Tryz.prog w = .ok (.pointer (some ⟨g, j * 21, none⟩)) w := by
  rw [run_indexAt_slice (h := by kernel_rfl), if_pos ⟨by omega, by omega⟩]
  have e : (sizeOf (Tryz.prog.elem 46)).run Tryz.prog w = .ok 21 w := by kernel_rfl
  rw [e]
  have e2 : (Addr.add ⟨g, 0, none⟩ ((j : Int).toNat * 21)) = ⟨g, j * 21, none⟩ := by
    rw [Addr.add_mid]
    simp
  show Result.ok (Value.pointer (some (Addr.add ⟨g, 0, none⟩ ((j : Int).toNat * 21)))) w = _
  rw [e2]
theorem ex_index46 {o : Oper} {a : Act} {w : World} {x ix : Operand} {g n cap : Nat} (j : Nat) (ho : o.op = .indexAddr 46 x ix) (hx : a.eval x = .slice (some ⟨g, 0, none⟩) n cap) (hix : a.eval ix = .int .i64 j) (hj : j < n) : (execOp a.eval o).run Tryz.prog w = .ok (.value (.pointer (some ⟨g, j * 21, none⟩))) w := by
  unfold execOp
  simp only [ho, hx, hix]
  have := index46 g n cap j hj w
  simp [this]
/-- Where a key is. -/
def RT.find (R : RT) (k : KK) : Option Nat := R.es.findIdx? (fun x => decide (x.k = k))
def fI : Option Nat → Int
  | some i => i
  | none => -1
set_option maxRecDepth 100000 in
theorem find_rows (R : RT) (k : KK) (g cap : Nat) (w : World) (hR : R.Is w) (hl : R.es.length ≤ 3000000) (hv : R.lv = .slice (some ⟨g, 0, none⟩) R.es.length cap) : Calls Tryz.prog 36 #[.pointer (some ⟨R.t, 0, none⟩), k.agg] w fun e w' => e = .returned (.int .i64 (fI (R.find k))) ∧ Below w.heap.size w w' := by
  have HV : Hid (Holds w R.t [.slice (some ⟨g, 0, none⟩) R.es.length cap, .int .i64 R.nx]) := hide (by have := hR.tab; unfold RT.cs at this; rw [hv] at this; exact this)
  have HO : Hid (∀ j, (hj : j < R.es.length) → w.rangeAt g (j * 21) R.es[j].cs) := hide (own_rows (f := EE.cs) (s := 21) (fun _ => rfl) (hv ▸ hR.own))
  have hgl : g < w.heap.size := by
    have := (World.ownsRow.lt hR.own g (by rw [hv]; rfl)).2
    exact this
  have HK := hide (Holds.new w k.cs 33)
  have hb1 : Below w.heap.size w (w.alloc (Obj.cells k.cs.toArray 33)) := (Below.refl _ _).alloc (Nat.le_refl _) _
  have htl : R.t < w.heap.size := hR.lt R.t (by simp [RT.blocks])
  have hk1 : w.heap.size < (w.alloc (Obj.cells k.cs.toArray 33)).heap.size := by simp
  have HG := hide (And.intro hgl (And.intro htl hk1))
  have HB1 := hide hb1
  clear hR hv hgl htl hk1 hb1
  rw [show k.agg = .agg k.cs.toArray from rfl]
  unfold RT.find
  go_enter Tryz.func36, Tryz.ntmps36
  go_wp2
  obtain ⟨w1, hw1⟩ : ∃ w1, w1 = w.alloc (Obj.cells k.cs.toArray 33) := ⟨_, rfl⟩
  rw [← hw1] at HK HG HB1 ⊢
  clear hw1
  go_loopg [5] R.es.length (fun gm s5 wr => ∃ j : Nat, s5 = .int .i64 j ∧ j ≤ R.es.length ∧ R.es.length - j ≤ gm ∧ Hid (Below w1.heap.size w1 wr) ∧ Hid (∀ t (h : t < R.es.length), t < j → ¬ R.es[t].k = k))
  case atStart => exact ⟨0, rfl, by omega, by omega, hide (Below.refl _ _), hide (fun t h h2 => by omega)⟩
  case round =>
    obtain ⟨j, rfl, hj, hg, HB, HN⟩ := hrel
    have HV2 : Hid (Holds wr R.t [.slice (some ⟨g, 0, none⟩) R.es.length cap, .int .i64 R.nx]) := hide ((unhide HV).block (((unhide HB).block _ (by have := (unhide HB1).size; have := (unhide HG).2.1; omega)).trans ((unhide HB1).block _ (unhide HG).2.1)))
    by_cases hjl : j < R.es.length
    · have hjz : (j : Int) < R.es.length := by omega
      obtain ⟨x, hx⟩ : ∃ x, x = R.es[j] := ⟨_, rfl⟩
      have HS : Hid (Holds wr.drew R.t [.slice (some ⟨g, 0, none⟩) R.es.length cap, .int .i64 R.nx] ∧ wr.drew.rangeAt g (j * 21) x.cs ∧ Holds wr.drew w.heap.size k.cs) := hide ⟨(unhide HV2).block rfl, fun i v hv => (World.cell?_of_block (w := w) (((unhide HB).block g (by have := (unhide HB1).size; have := (unhide HG).1; omega)).trans ((unhide HB1).block _ (unhide HG).1))).trans (by have := (unhide HO) j hjl i v (by rw [← hx]; exact hv); exact this), ((unhide HK).block ((unhide HB).block _ (unhide HG).2.2)).block rfl⟩
      by_cases he : x.k = k
      · have HE : Hid (decide (x.k = k) = true) := hide (decide_eq_true he)
        have HF : Hid (R.es.findIdx? (fun x => decide (x.k = k)) = some j) := hide (by
          rw [List.findIdx?_eq_some_iff_getElem]
          exact ⟨hjl, by rw [← hx]; simpa using he, fun t ht => by simpa using (unhide HN) t (by omega) ht⟩)
        clear hx he
        go_wp2_with (first | go_skip | ((refine rd (by rfl) (ex_load1 46 Tryz.isAgg46 rfl rfl (unhide HV2) rfl) ?_); simp only [Act.put, nzA, nzB, nzC]))
        refine wp_region_held_drew (P := Tryz.prog) (S := fun X => Holds X R.t [.slice (some ⟨g, 0, none⟩) R.es.length cap, .int .i64 R.nx] ∧ X.rangeAt g (j * 21) x.cs ∧ Holds X w.heap.size k.cs) (by kernel_rfl) (unhide HS) (fun hS0 => ?_)
        refine gsem 0 (some 15) (.pointer (some ⟨R.t, 0, none⟩)) rfl (by kernel_rfl) (by kernel_rfl) (by kernel_rfl) (fun _ _ _ h => h) (by kernel_rfl) (by kernel_rfl) (fun _ _ => by kernel_rfl) hS0 ?_
        simp only [Act.put, nzA, nzB, nzC]
        refine gsem 1 (some 16) (.pointer (some ⟨R.t, 0, none⟩)) rfl (by kernel_rfl) (by kernel_rfl) (by kernel_rfl) (fun _ _ _ h => h) (by kernel_rfl) (by kernel_rfl) (fun _ _ => by kernel_rfl) hS0 ?_
        simp only [Act.put, nzA, nzB, nzC]
        refine gsem 2 (some 17) (.pointer (some ⟨R.t, 0, none⟩)) rfl (by kernel_rfl) (by kernel_rfl) (by kernel_rfl) (fun _ _ _ h => h) (by kernel_rfl) (by kernel_rfl) (fun _ _ => by kernel_rfl) hS0 ?_
        simp only [Act.put, nzA, nzB, nzC]
        refine gsem 3 (some 18) (.slice (some ⟨g, 0, none⟩) R.es.length cap) rfl (by kernel_rfl) (by kernel_rfl) (by kernel_rfl) (fun _ _ _ h => h) (by kernel_rfl) (by kernel_rfl) (fun X hX => ex_load1 46 Tryz.isAgg46 rfl rfl (hX.1) rfl) hS0 ?_
        simp only [Act.put, nzA, nzB, nzC]
        refine gsem 4 (some 19) (.int .i64 (j : Nat)) rfl (by kernel_rfl) (by kernel_rfl) (by kernel_rfl) (fun _ _ _ h => h) (by kernel_rfl) (by kernel_rfl) (fun _ _ => by kernel_rfl) hS0 ?_
        simp only [Act.put, nzA, nzB, nzC]
        refine gsem 5 (some 20) (.pointer (some ⟨g, j * 21, none⟩)) rfl (by kernel_rfl) (by kernel_rfl) (by kernel_rfl) (fun _ _ _ h => h) (by kernel_rfl) (by kernel_rfl) (fun X hX => ex_index46 (x := .tmp 18) (ix := .tmp 19) j rfl rfl rfl hjl) hS0 ?_
        simp only [Act.put, nzA, nzB, nzC]
        refine gsem 6 (some 21) (.pointer (some ⟨g, j * 21, none⟩)) rfl (by kernel_rfl) (by kernel_rfl) (by kernel_rfl) (fun _ _ _ h => h) (by kernel_rfl) (by kernel_rfl) (fun _ _ => by kernel_rfl) hS0 ?_
        simp only [Act.put, nzA, nzB, nzC]
        refine gsem 7 (some 22) (x.k.agg) rfl (by kernel_rfl) (by kernel_rfl) (by kernel_rfl) (fun _ _ _ h => h) (by kernel_rfl) (by kernel_rfl) (fun X hX => ex_loadR (vs := x.k.cs) 33 2 row33x siz33 rfl rfl (range_left hX.2.1) rfl) hS0 ?_
        simp only [Act.put, nzA, nzB, nzC]
        refine gsem 8 (some 23) (k.agg) rfl (by kernel_rfl) (by kernel_rfl) (by kernel_rfl) (fun _ _ _ h => h) (by kernel_rfl) (by kernel_rfl) (fun X hX => ex_loadN (vs := k.cs) 33 2 row33x siz33 rfl rfl (hX.2.2) rfl rfl) hS0 ?_
        simp only [Act.put, nzA, nzB, nzC]
        refine gbin 9 (some 24) (b := .eql) (t := 33) (t2 := 33) (x := .tmp 22) (y := .tmp 23) (vx := x.k.agg) (vy := k.agg) (.bool true) rfl (by kernel_rfl) (by kernel_rfl) (by kernel_rfl) (fun _ _ _ h => h) (by kernel_rfl) (by kernel_rfl) (by kernel_rfl) (by kernel_rfl) (by kernel_rfl) (fun w => (eql33 x.k k w).trans (by rw [(unhide HE)])) (fun _ => by kernel_rfl) hS0 ?_
        simp only [Act.put, nzA, nzB, nzC]
        refine wpAnyH_done (by kernel_rfl) ?_ _
        try simp only [Act.put, nzA, nzB, nzC]
        clear hS0
        go_wp2
        go_ret
        refine ⟨?_, ((unhide HB1).trans ((unhide HB).mono (unhide HB1).size)).drew⟩
        rw [unhide HF]
        rfl
      · have HE : Hid (decide (x.k = k) = false) := hide (decide_eq_false he)
        have HQ : Hid (∀ t (h : t < R.es.length), t < j + 1 → ¬ R.es[t].k = k) := hide (fun t h h2 => by
          rcases Nat.lt_or_ge t j with h3 | h3
          · exact (unhide HN) t h h3
          · have h4 : t = j := by omega
            subst h4
            rw [← hx]; exact he)
        clear hx he
        go_wp2_with (first | go_skip | ((refine rd (by rfl) (ex_load1 46 Tryz.isAgg46 rfl rfl (unhide HV2) rfl) ?_); simp only [Act.put, nzA, nzB, nzC]))
        refine wp_region_held_drew (P := Tryz.prog) (S := fun X => Holds X R.t [.slice (some ⟨g, 0, none⟩) R.es.length cap, .int .i64 R.nx] ∧ X.rangeAt g (j * 21) x.cs ∧ Holds X w.heap.size k.cs) (by kernel_rfl) (unhide HS) (fun hS0 => ?_)
        refine gsem 0 (some 15) (.pointer (some ⟨R.t, 0, none⟩)) rfl (by kernel_rfl) (by kernel_rfl) (by kernel_rfl) (fun _ _ _ h => h) (by kernel_rfl) (by kernel_rfl) (fun _ _ => by kernel_rfl) hS0 ?_
        simp only [Act.put, nzA, nzB, nzC]
        refine gsem 1 (some 16) (.pointer (some ⟨R.t, 0, none⟩)) rfl (by kernel_rfl) (by kernel_rfl) (by kernel_rfl) (fun _ _ _ h => h) (by kernel_rfl) (by kernel_rfl) (fun _ _ => by kernel_rfl) hS0 ?_
        simp only [Act.put, nzA, nzB, nzC]
        refine gsem 2 (some 17) (.pointer (some ⟨R.t, 0, none⟩)) rfl (by kernel_rfl) (by kernel_rfl) (by kernel_rfl) (fun _ _ _ h => h) (by kernel_rfl) (by kernel_rfl) (fun _ _ => by kernel_rfl) hS0 ?_
        simp only [Act.put, nzA, nzB, nzC]
        refine gsem 3 (some 18) (.slice (some ⟨g, 0, none⟩) R.es.length cap) rfl (by kernel_rfl) (by kernel_rfl) (by kernel_rfl) (fun _ _ _ h => h) (by kernel_rfl) (by kernel_rfl) (fun X hX => ex_load1 46 Tryz.isAgg46 rfl rfl (hX.1) rfl) hS0 ?_
        simp only [Act.put, nzA, nzB, nzC]
        refine gsem 4 (some 19) (.int .i64 (j : Nat)) rfl (by kernel_rfl) (by kernel_rfl) (by kernel_rfl) (fun _ _ _ h => h) (by kernel_rfl) (by kernel_rfl) (fun _ _ => by kernel_rfl) hS0 ?_
        simp only [Act.put, nzA, nzB, nzC]
        refine gsem 5 (some 20) (.pointer (some ⟨g, j * 21, none⟩)) rfl (by kernel_rfl) (by kernel_rfl) (by kernel_rfl) (fun _ _ _ h => h) (by kernel_rfl) (by kernel_rfl) (fun X hX => ex_index46 (x := .tmp 18) (ix := .tmp 19) j rfl rfl rfl hjl) hS0 ?_
        simp only [Act.put, nzA, nzB, nzC]
        refine gsem 6 (some 21) (.pointer (some ⟨g, j * 21, none⟩)) rfl (by kernel_rfl) (by kernel_rfl) (by kernel_rfl) (fun _ _ _ h => h) (by kernel_rfl) (by kernel_rfl) (fun _ _ => by kernel_rfl) hS0 ?_
        simp only [Act.put, nzA, nzB, nzC]
        refine gsem 7 (some 22) (x.k.agg) rfl (by kernel_rfl) (by kernel_rfl) (by kernel_rfl) (fun _ _ _ h => h) (by kernel_rfl) (by kernel_rfl) (fun X hX => ex_loadR (vs := x.k.cs) 33 2 row33x siz33 rfl rfl (range_left hX.2.1) rfl) hS0 ?_
        simp only [Act.put, nzA, nzB, nzC]
        refine gsem 8 (some 23) (k.agg) rfl (by kernel_rfl) (by kernel_rfl) (by kernel_rfl) (fun _ _ _ h => h) (by kernel_rfl) (by kernel_rfl) (fun X hX => ex_loadN (vs := k.cs) 33 2 row33x siz33 rfl rfl (hX.2.2) rfl rfl) hS0 ?_
        simp only [Act.put, nzA, nzB, nzC]
        refine gbin 9 (some 24) (b := .eql) (t := 33) (t2 := 33) (x := .tmp 22) (y := .tmp 23) (vx := x.k.agg) (vy := k.agg) (.bool false) rfl (by kernel_rfl) (by kernel_rfl) (by kernel_rfl) (fun _ _ _ h => h) (by kernel_rfl) (by kernel_rfl) (by kernel_rfl) (by kernel_rfl) (by kernel_rfl) (fun w => (eql33 x.k k w).trans (by rw [(unhide HE)])) (fun _ => by kernel_rfl) hS0 ?_
        simp only [Act.put, nzA, nzB, nzC]
        refine wpAnyH_done (by kernel_rfl) ?_ _
        try simp only [Act.put, nzA, nzB, nzC]
        clear hS0
        go_wp2
        go_roundg (R.es.length - (j + 1))
        case measure => omega
        case rel => exact ⟨j + 1, by go_num, by omega, Nat.le_refl _, hide (unhide HB).drew, HQ⟩
    · have hjz : ¬ (j : Int) < R.es.length := by omega
      have HF : Hid (R.es.findIdx? (fun x => decide (x.k = k)) = none) := hide (by
        rw [List.findIdx?_eq_none_iff]
        intro x hx
        obtain ⟨t, ht, rfl⟩ := List.getElem_of_mem hx
        simpa using (unhide HN) t ht (by omega))
      go_wp2_with (first | go_skip | ((refine rd (by rfl) (ex_load1 46 Tryz.isAgg46 rfl rfl (unhide HV2) rfl) ?_); simp only [Act.put, nzA, nzB, nzC]))
      go_ret
      refine ⟨?_, (unhide HB1).trans ((unhide HB).mono (unhide HB1).size)⟩
      rw [unhide HF]
      rfl
set_option maxRecDepth 100000 in
theorem find_nil (R : RT) (k : KK) (w : World) (hR : R.Is w) (hv : R.lv = .slice none 0 0) (h0 : R.es = []) : Calls Tryz.prog 36 #[.pointer (some ⟨R.t, 0, none⟩), k.agg] w fun e w' => e = .returned (.int .i64 (fI (R.find k))) ∧ Below w.heap.size w w' := by
  have htl : R.t < w.heap.size := hR.lt R.t (by simp [RT.blocks])
  have hb1 : Below w.heap.size w (w.alloc (Obj.cells k.cs.toArray 33)) := (Below.refl _ _).alloc (Nat.le_refl _) _
  have HV : Hid (Holds (w.alloc (Obj.cells k.cs.toArray 33)) R.t [.slice none 0 0, .int .i64 R.nx]) := hide (by have := hR.tab; unfold RT.cs at this; rw [hv] at this; exact this.block (hb1.block _ htl))
  have HB1 := hide hb1
  have HF : Hid (R.find k = none) := hide (by unfold RT.find; rw [h0]; rfl)
  clear hR hv h0 htl hb1
  rw [show k.agg = .agg k.cs.toArray from rfl]
  go_enter Tryz.func36, Tryz.ntmps36
  go_wp2
  obtain ⟨w1, hw1⟩ : ∃ w1, w1 = w.alloc (Obj.cells k.cs.toArray 33) := ⟨_, rfl⟩
  rw [← hw1] at HV HB1 ⊢
  clear hw1
  go_loopg [5] 0 (fun gm s5 wr => s5 = .int .i64 0 ∧ wr = w1)
  case atStart => exact ⟨rfl, rfl⟩
  case round =>
    obtain ⟨rfl, rfl⟩ := hrel
    go_wp2_with (first | go_skip | ((refine rd (by rfl) (ex_load1 46 Tryz.isAgg46 rfl rfl (unhide HV) rfl) ?_); simp only [Act.put, nzA, nzB, nzC]))
    go_ret
    refine ⟨?_, unhide HB1⟩
    rw [unhide HF]
    rfl
theorem find36 (R : RT) (k : KK) (w : World) (hR : R.Is w) (hl : R.es.length ≤ 3000000) : Calls Tryz.prog 36 #[.pointer (some ⟨R.t, 0, none⟩), k.agg] w fun e w' => e = .returned (.int .i64 (fI (R.find k))) ∧ Below w.heap.size w w' := by
  rcases hR.own.2 with ⟨h1, h2⟩ | ⟨g, cap, cur, h1, h2⟩
  · exact find_nil R k w hR h1 (List.length_eq_zero_iff.1 h2)
  · exact find_rows R k g cap w hR hl h1
theorem RT.find_lt {R : RT} {k : KK} {i : Nat} (h : R.find k = some i) : ∃ hi : i < R.es.length, R.es[i].k = k := by
  obtain ⟨hi, h1, h2⟩ := List.findIdx?_eq_some_iff_getElem.1 h
  exact ⟨hi, by simpa using h1⟩
/-- A key's descriptor in the document's table. -/
def RT.getD (R : RT) (k : KK) : DD := match R.find k with
  | some i => ((R.es[i]?).map (·.d)).getD zeroD
  | none => zeroD
set_option maxRecDepth 100000 in
theorem refGet20 (R : RT) (k : KK) (w : World) (hR : R.Is w) (hl : R.es.length ≤ 3000000) : Calls Tryz.prog 20 #[.pointer (some ⟨R.t, 0, none⟩), k.agg] w fun e w' => e = .returned (.tuple #[(RT.getD R k).agg, .bool (R.find k).isSome]) ∧ Below w.heap.size w w' := by
  rcases hf : R.find k with _ | i
  · have HR := hide (hR.on (two_below w k.cs.toArray zeroD.cs.toArray 33 39))
    have LL := hide (Hq.two w [] k.cs zeroD.cs 33 39 (Nat.succ_pos _) (Nat.succ_pos _))
    have hB2 : Hid (w.heap.size ≤ w.heap.size + 1) := hide (Nat.le_succ _)
    have HC := hide (fun X hX => find36 R k X hX hl)
    have HD : Hid (RT.getD R k = zeroD) := hide (by unfold RT.getD; rw [hf])
    rw [hf] at HC
    rw [show fI none = -1 from rfl] at HC
    clear hR
    rw [show k.agg = .agg k.cs.toArray from rfl]
    go_enter Tryz.func20, Tryz.ntmps20
    go_wp2_with (first | go_skip | ((refine rd (by rfl) (ex_loadN (vs := k.cs) 33 2 row33x siz33 rfl rfl ((unhide LL).get 0 rfl) rfl rfl) ?_); simp only [Act.put, nzA, nzB, nzC]))
    refine (unhide HC _ (unhide HR)).mono ?_
    rintro _ w1 ⟨rfl, hb⟩
    replace LL := hide ((unhide LL).on hb)
    replace HR := hide ((unhide HR).on hb)
    clear hb
    go_wp2_with (first | go_skip | ((refine st (vs := zeroD.cs) 1 39 (by rfl) rfl rfl rfl rfl (by simp [zeroD, zeroV, DD.cs, VV.cs, Value.oneCell']) siz39 (unhide LL) rfl (by simp [dcs_length]) (Or.inr (unhide hB2)) ?_); intro w3 L3 hf3 hs3; replace LL := hide L3; clear L3 hf3 hs3; simp only [Act.put, nzA, nzB, nzC]))
    refine ret_ct (d := zeroD) (r := 4) (q := 5) (b := w.heap.size + 1) rfl rfl rfl rfl ((unhide LL).get 1 rfl) rfl ⟨?_, (unhide LL).fr.below⟩
    rw [unhide HD]
    rfl
  · have HR := hide (hR.on (two_below w k.cs.toArray zeroD.cs.toArray 33 39))
    have LL := hide (Hq.two w [] k.cs zeroD.cs 33 39 (Nat.succ_pos _) (Nat.succ_pos _))
    have hB2 : Hid (w.heap.size ≤ w.heap.size + 1) := hide (Nat.le_succ _)
    have HC := hide (fun X hX => find36 R k X hX hl)
    obtain ⟨hi, hik⟩ := RT.find_lt hf
    obtain ⟨x, hx⟩ : ∃ x, x = R.es[i] := ⟨_, rfl⟩
    obtain ⟨g, cap, hlv⟩ : ∃ g cap, R.lv = .slice (some ⟨g, 0, none⟩) R.es.length cap := by
      rcases hR.own.2 with ⟨h1, h2⟩ | ⟨g, cap, cur, h1, h2⟩
      · omega
      · exact ⟨g, cap, h1⟩
    have HX : Hid (∀ X, R.Is X → X.rangeAt g (i * 21) x.cs ∧ Holds X R.t [.slice (some ⟨g, 0, none⟩) R.es.length cap, .int .i64 R.nx]) := hide (fun X hX => ⟨by rw [hx]; exact own_rows (f := EE.cs) (s := 21) (fun _ => rfl) (hlv ▸ hX.own) i hi, by have := hX.tab; unfold RT.cs at this; rw [hlv] at this; exact this⟩)
    have HD : Hid (RT.getD R k = x.d) := hide (by unfold RT.getD; rw [hf]; show (Option.map (fun x => x.d) R.es[i]?).getD zeroD = x.d; rw [List.getElem?_eq_getElem hi, ← hx]; rfl)
    have hiz : (i : Int) < R.es.length := by omega
    rw [hf] at HC
    rw [show fI (some i) = (i : Int) from rfl] at HC
    clear hx hik hlv
    clear hR
    rw [show k.agg = .agg k.cs.toArray from rfl]
    go_enter Tryz.func20, Tryz.ntmps20
    go_wp2_with (first | go_skip | ((refine rd (by rfl) (ex_loadN (vs := k.cs) 33 2 row33x siz33 rfl rfl ((unhide LL).get 0 rfl) rfl rfl) ?_); simp only [Act.put, nzA, nzB, nzC]))
    refine (unhide HC _ (unhide HR)).mono ?_
    rintro _ w1 ⟨rfl, hb⟩
    replace LL := hide ((unhide LL).on hb)
    replace HR := hide ((unhide HR).on hb)
    clear hb
    go_wp2_with (first | go_skip | ((refine rd (by rfl) (ex_load1 46 Tryz.isAgg46 rfl rfl ((unhide HX) _ (unhide HR)).2 rfl) ?_); simp only [Act.put, nzA, nzB, nzC]) | ((refine rd (by rfl) (ex_index46 i rfl rfl rfl hi) ?_); simp only [Act.put, nzA, nzB, nzC]) | ((refine rd (by rfl) (ex_loadR (B := g) (p := i * 21 + 2) (vs := x.d.cs) 39 18 row39 siz39 rfl rfl (range_left (range_right ((unhide HX) _ (unhide HR)).1)) rfl) ?_); simp only [Act.put, nzA, nzB, nzC]) | ((refine st (vs := x.d.cs) 1 39 (by rfl) rfl rfl rfl rfl (by simp [DD.cs, VV.cs, Value.oneCell']) siz39 (unhide LL) rfl (by simp [dcs_length]) (Or.inr (unhide hB2)) ?_); intro w3 L3 hf3 hs3; replace LL := hide L3; clear L3 hf3 hs3; simp only [Act.put, nzA, nzB, nzC]))
    refine ret_ct (d := x.d) (r := 4) (q := 5) (b := w.heap.size + 1) rfl rfl rfl rfl ((unhide LL).get 1 rfl) rfl ⟨?_, (unhide LL).fr.below⟩
    rw [unhide HD]
    rfl
end
end Go.Proofs.YtpbdidnphkkenaaGreatDoor
namespace Go.Proofs.YtpbdidnphkkenaaGreatDoor
set_option maxHeartbeats 400000
section
open Go Go.Proofs Go.Maps Go.RowKit
attribute [local go_sem] Oper.semAt_some
/-- The order in which an object tells its keys. -/
def ordK (l : List KK) : List KK := outK (mg (ixs l)) ++ strs l ++ syms l
theorem siz64 : (Tryz.prog.info? 64).map (·.size) = some 1 := by kernel_rfl
set_option maxRecDepth 100000 in
theorem keys28 (T : TT) (w : World) (hT : T.Is w) (hlast : T.last < 4000000) (hl : T.live.length ≤ 1500000) (hU : Lib.Utf8Tabs 2 3 w) (hP : TabP w) : Calls Tryz.prog 28 #[.pointer (some ⟨T.t, 0, none⟩)] w fun e w' => ∃ v, e = .returned v ∧ OwnK w' w.heap.size v (ordK (T.live.map (·.k))) ∧ Below w.heap.size w w' := by
  refine (callsIn_wide (n := 4)).1 ?_
  have HL := hide (len30 T w hT)
  have HE := hide (fun X => each41 T X)
  have HT := hide hT
  clear hT
  refine callsIn_of_wp_marks Tryz.func28 rfl trivial ?_ rfl
  simp only [Tryz.ntmps28, List.size_toArray, List.length_cons, List.length_nil, Nat.reduceAdd, Nat.reduceSub, Array.replicate_succ, Array.replicate_zero, List.push_toArray, List.append_toArray, List.nil_append, List.cons_append]
  gi_wp2_with fail
  refine ⟨trivial, (callsIn_wide.2 (unhide HL)).mono ?_⟩
  rintro e w1 ⟨rfl, rfl⟩
  obtain ⟨i0, hi, hz0, hz1, hz2⟩ := info_parts info23w
  obtain ⟨wm, hrun, hm1, hm2⟩ := run_makeSlice_owned (P := Tryz.prog) w1 w1.heap.size 64 33 i0 _ 2 Tryz.underlying64 hi hz0 hz1 .i64 .i64 T.live.length (by omega) (by rw [hz2]; omega) (by unfold maxLen; omega) (Nat.le_refl _)
  gi_wp2_with fail
  refine ⟨trivial, (callsIn_wide.2 ((unhide HE) _)).mono ?_⟩
  rintro e w2 ⟨rfl, rfl⟩
  have hms := hm2.size
  have hbm : Below w1.heap.size w1 wm := ⟨hm2.os, hm2.tape, hm2.output, hm2.size, fun k hk => hm2.block k hk (by simp)⟩
  have b3 : Boxed (wm.alloc (.cells #[.slice (some ⟨w1.heap.size, 0, none⟩) 0 T.live.length] 64)) wm.heap.size 64 (.slice (some ⟨w1.heap.size, 0, none⟩) 0 T.live.length) := Boxed.new wm 64 _
  have bn : Boxed ((wm.alloc (.cells #[.slice (some ⟨w1.heap.size, 0, none⟩) 0 T.live.length] 64)).alloc (.cells #[.pointer (some ⟨T.t, 0, none⟩)] 26)) (wm.heap.size + 1) 26 (.pointer (some ⟨T.t, 0, none⟩)) := by
    have := Boxed.new (wm.alloc (.cells #[.slice (some ⟨w1.heap.size, 0, none⟩) 0 T.live.length] 64)) 26 (.pointer (some ⟨T.t, 0, none⟩))
    rwa [World.size_alloc] at this
  have hB0 : Below w1.heap.size w1 ((wm.alloc (.cells #[.slice (some ⟨w1.heap.size, 0, none⟩) 0 T.live.length] 64)).alloc (.cells #[.pointer (some ⟨T.t, 0, none⟩)] 26)) := (hbm.alloc hms _).alloc (by simp; omega) _
  have hT3 := (unhide HT).on hB0
  have hlt3 := (unhide HT).lt
  have HTT := HT
  clear HL HE
  gi_wp2
  try simp only [World.size_alloc]
  refine wpIn_rangeFunc_ownH (α := KK × DD) rfl (by omega) (gf := 49) (lb := #[.pointer (some ⟨wm.heap.size + 1, 0, none⟩)]) rfl trivial (enters_of Tryz.func49 (by kernel_rfl) rfl)
    (each_stops T 3 (by omega) (wm.heap.size + 1) w1.heap.size _ hT3 hlast hlt3 (by simp) bn.cell (by simp; omega)) kb_t (kb_b (by simp; omega) (by simp)) (Below.refl _ _) (fun _ => rfl)
    (fun pre W => (∃ v, Boxed W wm.heap.size 64 v ∧ W.ownsRow w1.heap.size 33 2 v pre.length (flatK (pre.map (·.1))) ∧ True) ∧ Boxed W (wm.heap.size + 1) 26 (.pointer (some ⟨T.t, 0, none⟩)) ∧ Below w1.heap.size w1 W)
    (fun _ _ _ => False)
    (OwnFrom.and (Own.from (holdsRow_own w1.heap.size wm.heap.size 64 33 2 (fun pre : List (KK × DD) => pre.length) (fun pre => flatK (pre.map (·.1))) (fun _ _ => True)) _) (OwnFrom.and (Own.from (boxed_own _ _ _) _) (ownFrom_below (Nat.le_refl _) (by simp; omega))))
    (fun _ _ _ _ _ hs _ _ => hs)
    ⟨⟨_, b3.alloc _, (hm1.alloc _).alloc _, trivial⟩, bn, hB0⟩
    (fun x a' W => ∃ Bk, a' = { tmps := #[.pointer (some ⟨T.t, 0, none⟩), undef, .slice none 0 0, .pointer (some ⟨wm.heap.size, 0, none⟩), .pointer (some ⟨Bk, 0, none⟩), .pointer (some ⟨T.t, 0, none⟩), .int .i64 T.live.length, .slice (some ⟨w1.heap.size, 0, none⟩) 0 T.live.length, .pointer (some ⟨T.t, 0, none⟩), .func (.func 49) #[] #[.pointer (some ⟨wm.heap.size + 1, 0, none⟩)], x.1.agg, x.2.agg, undef, undef, undef, undef, undef, undef, undef, undef, undef, undef], defers := [] } ∧ Holds W Bk x.1.cs)
    (fun x a' _ X Y row hs hg hr => by
      obtain ⟨Bk, h1, h2⟩ := hs
      exact ⟨Bk, h1, holds_own h2 (Nat.succ_pos _) hg (fun r e => (hr r e).2)⟩)
    ?assign ?body ?done ?stop
  case assign =>
    intro l pre x W K hI hK
    simp only [encP]
    obtain ⟨p1, p2, p3⟩ := new_var W zeroK.cs x.1.cs 33 (Nat.le_refl _) rfl (Nat.succ_pos _)
    obtain ⟨X1, hX1⟩ : ∃ X1, X1 = (W.alloc (Obj.cells zeroK.cs.toArray 33)).setCells W.heap.size 0 x.1.cs := ⟨_, rfl⟩
    rw [← hX1] at p1 p2 p3
    have HK := hide (hK)
    have hg2 : W.grownBy X1 none := grown_of_below p1
    have hI2 : Hid _ := hide hI
    clear hK hI
    have ht : ((#[10, 11] : Array Tmp).zip #[x.1.agg, x.2.agg]).foldl (fun t x => t.setIfInBounds x.1 x.2) (#[.pointer (some ⟨T.t, 0, none⟩), undef, .slice none 0 0, .pointer (some ⟨wm.heap.size, 0, none⟩), undef, .pointer (some ⟨T.t, 0, none⟩), .int .i64 T.live.length, .slice (some ⟨w1.heap.size, 0, none⟩) 0 T.live.length, .pointer (some ⟨T.t, 0, none⟩), .func (.func 49) #[] #[.pointer (some ⟨wm.heap.size + 1, 0, none⟩)], undef, undef, undef, undef, undef, undef, undef, undef, undef, undef, undef, undef] : Array Value) = #[.pointer (some ⟨T.t, 0, none⟩), undef, .slice none 0 0, .pointer (some ⟨wm.heap.size, 0, none⟩), undef, .pointer (some ⟨T.t, 0, none⟩), .int .i64 T.live.length, .slice (some ⟨w1.heap.size, 0, none⟩) 0 T.live.length, .pointer (some ⟨T.t, 0, none⟩), .func (.func 49) #[] #[.pointer (some ⟨wm.heap.size + 1, 0, none⟩)], x.1.agg, x.2.agg, undef, undef, undef, undef, undef, undef, undef, undef, undef, undef] := by simp
    rw [ht]
    refine wpIn_region_lit ?_
    refine inV (fun _ => trivial) (by rfl) (by intro c h; cases h) (ex_alloc33 rfl) ?_
    simp only [Act.put, nzA, nzB, nzC]
    refine inS (fun _ => trivial) (by rfl) (by intro c h; cases h) (ex_store (t := 33) (vs := x.1.cs) rfl rfl rfl rfl (by simp [KK.cs, Value.oneCell']) siz33 (Holds.new W zeroK.cs 33) (Nat.le_refl _)) ?_
    rw [← hX1]
    simp only [Act.put, nzA, nzB, nzC]
    refine wpListIn_nil ?_
    obtain ⟨⟨v, hv, hrow, -⟩, hbn, hB⟩ := unhide hI2
    have hsz := hB.size
    exact (unhide HK) _ X1 (KeepsFrom.of_grownBy hg2 (fun j e => by cases e)) ⟨p1.mono hsz, p1.block _ hbn.lt⟩ ⟨⟨v, hv.kept hg2 (by simp), own_block hrow (fun g hg => p1.block g (World.ownsRow.lt hrow g hg).2), trivial⟩, hbn.kept hg2 (by simp), hB.trans (p1.mono hsz)⟩ ⟨W.heap.size, rfl, p2⟩
  case body =>
    rintro l pre x a' W hl2 hloop ⟨⟨v, hv, hrow, -⟩, hbn, hB⟩ ⟨Bk, rfl, hk⟩ hlen
    have Hk := hide hk
    have Hv := hide hv
    have Hrow := hide hrow
    have Hbn := hide hbn
    have HB := hide hB
    clear hk hv hrow hbn hB hloop
    refine wpIn_block ?_
    refine wpIn_region_lit ?_
    refine inV (fun _ => trivial) (by rfl) (by intro c h; cases h) (ex_loadC (B := wm.heap.size) (p := 0) (v := v) 64 Tryz.isAgg64 rfl rfl (unhide Hv).cell) ?_
    simp only [Act.put, nzA, nzB, nzC]
    refine inV (fun _ => trivial) (by rfl) (by intro c h; cases h) (ex_loadN (B := Bk) (p := 0) (cs := x.1.cs) (vs := x.1.cs) 33 2 row33x siz33 rfl rfl (unhide Hk) rfl rfl) ?_
    simp only [Act.put, nzA, nzB, nzC]
    refine inV (fun _ => trivial) (by rfl) (by intro c h; cases h) (ex_buildS (t := 64) (e := 33) (v := .agg x.1.cs.toArray) (cs := x.1.cs) rfl rfl Tryz.underlying64 info23w (by decide) rfl rfl (by decide)) ?_
    simp only [Act.put, nzA, nzB, nzC]
    refine appI (v := v) (B := W.heap.size) (m := 1) (c := 1) (fun _ => trivial) (by rfl) rfl rfl rfl Tryz.underlying64 info23w rfl (by decide) ((unhide Hrow).alloc _) (Holds.new W x.1.cs 33) rfl (by simp [KK.cs, Value.oneCell']) (by omega) (by decide) (by have := (unhide HB).size; simp; omega) ?_
    intro A c' w4 ho4 hg4
    have HA := hide ((unhide Hv).appended (by decide) (unhide Hrow) (unhide HB).size hms ho4 hg4)
    have HG := hide hg4
    clear ho4 hg4
    simp only [Act.put, nzA, nzB, nzC]
    refine inS (fun _ => trivial) (by rfl) (by intro c h; cases h) (ex_store (t := 64) (b := wm.heap.size) (p := 0) (cs := [v]) (vs := [.slice A (pre.length + 1) c']) rfl rfl rfl rfl (by simp [Value.oneCell']) siz64 (boxed_holds (unhide HA).1) (Nat.le_refl _)) ?_
    simp only [Act.put, nzA, nzB, nzC]
    refine wpListIn_nil ?_
    obtain ⟨h1, h2, h3, h4, h5⟩ := unhide HA
    have hbn := unhide Hbn
    have hB := unhide HB
    have hne : some (wm.heap.size + 1) ≠ v.ownBlock := hbn.not_row (by decide) (unhide Hrow)
    have eb : (w4.setCell ⟨wm.heap.size, 0, none⟩ (Value.slice A (pre.length + 1) c')).heap[wm.heap.size + 1]? = W.heap[wm.heap.size + 1]? := by
      rw [Below.heap_setCell _ _ _ _ (by show wm.heap.size + 1 ≠ wm.heap.size; omega), (unhide HG).block _ (by have := hbn.lt; simp; omega) hne, Below.heap_alloc _ _ _ hbn.lt]
    refine ⟨h4.from _, ⟨h5, eb⟩, ⟨⟨_, h2, ?_, trivial⟩, eb.trans hbn, hB.trans h5⟩⟩
    rw [List.map_append, flatK_append, show flatK (List.map (fun z : KK × DD => z.1) [x]) = x.1.cs from flatK_one x.1, List.length_append]
    exact h3
  case done =>
    rintro D ys W hD rfl ⟨⟨v, hv, hrow, -⟩, hbn, hB⟩ hK
    have hc := hv.cell
    have hO : OwnK W w1.heap.size v (T.live.map (·.k)) := by
      unfold OwnK
      have e1 : (T.live.map RR.pr).map (fun z : KK × DD => z.1) = T.live.map (·.k) := by rw [List.map_map]; rfl
      rw [e1] at hrow
      rw [List.length_map] at hrow ⊢
      exact hrow
    have hall : (T.live.map (·.k)).all goodK = true := by
      rw [List.all_map, List.all_eq_true]
      intro r hr
      exact (unhide HT).good r hr
    have HC := hide (order8 v (T.live.map (·.k)) W (tabs_belowB hU (tabs_size hU) hB) (hP.on hB) hO.reads (by rw [List.length_map]; exact hl))
    clear hO
    gi_wp2_with fail
    refine ⟨trivial, (callsIn_wide.2 (unhide HC)).mono ?_⟩
    rintro e W5 ⟨v5, n5, rfl, hb5, hcase⟩
    rcases hcase with ⟨-, rfl, hO5⟩ | ⟨hbad, -, -⟩
    rotate_left
    · rw [hall] at hbad; cases hbad
    obtain ⟨L5, hL5⟩ : ∃ L5, L5 = ordK (T.live.map (·.k)) := ⟨_, rfl⟩
    replace hO5 : OwnK W5 W.heap.size v5 L5 := hL5 ▸ hO5
    have HL5 := hide hL5
    clear hL5
    obtain ⟨A5, c5, rfl⟩ := own_form hO5
    have hv5 : Boxed W5 wm.heap.size 64 v := (hb5.block _ hv.lt).trans hv
    have hc5 := hv5.cell
    have hf5 := hv5.frozen
    have hDl : D < W.heap.size := (Array.getElem?_eq_some_iff.1 hK).1
    have hD2 : wm.heap.size + 1 + 1 ≤ D := by simpa using hD
    have HO5 := hide hO5
    clear hO5 hall
    gi_wp2
    have hK5 : (W5.setCell ⟨wm.heap.size, 0, none⟩ (.slice A5 L5.length c5)).heap[D]? = some (.deferred (some [])) := by
      rw [Below.heap_setCell _ _ _ _ (by show D ≠ wm.heap.size; omega), hb5.block D hDl]
      exact hK
    have hO5 := unhide HO5
    have hBs := hB.size
    refine ⟨by simp, .inl ⟨_, _, rfl, run_takeDeferred hK5, ?_⟩⟩
    refine ⟨_, results_tmp rfl _ _ _, _, rfl, ?_, ((hB.trans (hb5.mono hBs)).setCell (p := ⟨wm.heap.size, 0, none⟩) (by exact hms) _).trans (belowK_b (w := w1) (Nat.le_refl _) _ D _ _ (by omega) hK5 rfl rfl)⟩
    rw [← unhide HL5]
    refine (hO5.mono hBs).block (fun g hg => ?_)
    have hg2 := (hO5.own g hg)
    have e1 : ∀ (Z : World) (o' : Obj), (Z.putObj D o').heap[g]? = Z.heap[g]? := fun Z o' => by
      show (Z.heap.setIfInBounds D o')[g]? = _
      rw [Array.getElem?_setIfInBounds_ne (by omega)]
    rw [e1, Below.heap_setCell _ _ _ _ (by have := hv.lt; show g ≠ wm.heap.size; omega)]
  case stop =>
    rintro D c pre W _ _ h _
    exact h.elim
