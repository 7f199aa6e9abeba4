import Derived.Test.YtmemceindohklaaDoorQm

/-! My -/
namespace Go.Proofs.YtmemceindohklaaDoor
open Go Go.Proofs Go.Maps Go.RowKit
set_option linter.unusedSimpArgs false
set_option linter.unusedVariables false
set_option maxHeartbeats 1000000
theorem gapp {md : Region.Mode} {ops : Array Oper} {Q : Exit → Act → World → Prop} {S : World → Prop} {w : World} {fuel : Nat} {listed : Array Bool} {a : Act} {o : Oper} {rs : List Nat} (i : Nat) (dst : Option Tmp) {t e : TypeId} {size bytes k m c B base : Nat} {z v : Value} {xs news : List Value} {s x : Operand} (hi0 : ops[i]? = some o) (hd : o.dst = dst) (hw : Region.wanted o (yielded ops a.tmps) = true) (ho : o.op = .call { callee := .builtin .append, args := #[s, x], argTypes := #[t, t] }) (hs : a.eval s = v) (hx : a.eval x = .slice (some ⟨B, 0, none⟩) m c)
    (ht : Tryd.prog.underlying t = some (.slice e)) (hi : (Tryd.prog.info? e).map (fun i => (i.zero, i.size, i.bytes)) = some (some z, size, bytes)) (hz : z.cells.size = size) (hsz : 0 < size) (hown : w.ownsRow base e size v k xs) (hB : Holds w B news) (hl : news.length = m * size) (h1 : ∀ u ∈ news, u.oneCell' = true)
    (hn : k + m ≤ 1000000) (hby : bytes ≤ 10000) (hbase : base ≤ w.heap.size) (hon : ∀ X, w.grownBy X v.ownBlock → S X)
    (h : ∀ A c' X, X.ownsRow base e size (.slice A (k + m) c') (k + m) (xs ++ news) → w.grownBy X v.ownBlock → wpAnyH Tryd.prog md ops Q S fuel (listed.setIfInBounds i true) (a.put dst (.slice A (k + m) c')) X) (hs2 : AllReadyH Tryd.prog md ops Q S fuel listed a w rs) : AllReadyH Tryd.prog md ops Q S fuel listed a w (i :: rs) := by
  obtain ⟨A, c', w', he, h2, h3⟩ := ex_append ho hs hx ht hi hz hsz hown hB hl h1 hn hby hbase
  exact gval i dst hi0 hd hw he (hon w' h3) (h A c' w' h2 h3) hs2
end Go.Proofs.YtmemceindohklaaDoor

/-! Nc -/
namespace Go.Proofs.YtmemceindohklaaDoor
open Go Go.Proofs Go.Maps Go.RowKit
end Go.Proofs.YtmemceindohklaaDoor

/-! Ne -/
namespace Go.Proofs.YtmemceindohklaaDoor
open Go Go.Proofs Go.Maps Go.RowKit
set_option linter.unusedSimpArgs false
set_option linter.unusedVariables false
set_option maxHeartbeats 1000000
def EE.pr (x : EE) : KK × DD := (x.k, x.d)
/-- Both tables tell the same. -/
def Rel (T : TT) (R : RT) : Prop := T.live.map RR.pr = R.es.map EE.pr
theorem Rel.len {T : TT} {R : RT} (h : Rel T R) : T.live.length = R.es.length := by
  have := congrArg List.length h
  simpa using this
theorem Rel.keys {T : TT} {R : RT} (h : Rel T R) : T.live.map (·.k) = R.es.map (·.k) := by
  have := congrArg (List.map Prod.fst) h
  rw [List.map_map, List.map_map] at this
  exact this
theorem Rel.good {T : TT} {R : RT} {W : World} (h : Rel T R) (hT : T.Is W) : ∀ x ∈ R.es, goodK x.k = true := by
  intro x hx
  have h1 : x.k ∈ R.es.map (·.k) := List.mem_map.2 ⟨x, hx, rfl⟩
  rw [← h.keys] at h1
  obtain ⟨r, hr, he⟩ := List.mem_map.1 h1
  rw [← he]
  exact hT.good r hr
theorem find_pr {α : Type} (f : α → KK × DD) (k : KK) : ∀ l : List α, (l.find? (fun x => decide ((f x).1 = k))).map f = (l.map f).find? (fun p => decide (p.1 = k))
  | [] => rfl
  | x :: l => by
    simp only [List.map_cons, List.find?_cons]
    cases decide ((f x).1 = k)
    · exact find_pr f k l
    · rfl
theorem idx_find {α : Type} (p : α → Bool) : ∀ l : List α, l.find? p = (l.findIdx? p).bind (fun i => l[i]?)
  | [] => rfl
  | x :: l => by
    rw [List.find?_cons, List.findIdx?_cons]
    cases hp : p x
    · simp only [Bool.false_eq_true, if_false]
      rw [idx_find p l]
      cases l.findIdx? p <;> simp
    · simp
theorem RT.find_eq (R : RT) (k : KK) : R.es.find? (fun x => decide (x.k = k)) = (R.find k).bind (fun i => R.es[i]?) := idx_find _ _
theorem Rel.find {T : TT} {R : RT} (h : Rel T R) (k : KK) : (T.find k).map RR.pr = ((R.find k).bind (fun i => R.es[i]?)).map EE.pr := by
  rw [← RT.find_eq]
  have h1 := find_pr RR.pr k T.live
  have h2 := find_pr EE.pr k R.es
  unfold Rel at h
  rw [h] at h1
  exact h1.trans h2.symm
theorem RT.find_bind {R : RT} {k : KK} {i : Nat} (h : R.find k = some i) : ∃ x, R.es[i]? = some x ∧ x.k = k := by
  obtain ⟨hi, hk⟩ := RT.find_lt h
  exact ⟨R.es[i], List.getElem?_eq_getElem hi, hk⟩
theorem Rel.some {T : TT} {R : RT} (h : Rel T R) (k : KK) : (T.find k).isSome = (R.find k).isSome := by
  have h1 := congrArg Option.isSome (h.find k)
  simp only [Option.isSome_map] at h1
  rw [h1]
  cases hr : R.find k with
  | none => rfl
  | some i =>
    obtain ⟨x, hx, _⟩ := RT.find_bind hr
    simp [hx]
theorem Rel.getD {T : TT} {R : RT} (h : Rel T R) (k : KK) : getD T k = RT.getD R k := by
  have h1 := h.find k
  unfold Go.Proofs.YtmemceindohklaaDoor.getD RT.getD
  cases hr : R.find k with
  | none =>
    rw [hr] at h1
    simp at h1
    simp [h1]
  | some i =>
    obtain ⟨hi, hk⟩ := RT.find_lt hr
    rw [hr] at h1
    simp [List.getElem?_eq_getElem hi] at h1
    obtain ⟨r, h2, h3⟩ := h1
    have h4 := congrArg Prod.snd h3
    simp [h2, hi]
    exact h4
theorem Rel.added {T : TT} {R : RT} (h : Rel T R) (rv lv : Value) (B t : Nat) (k : KK) (d : DD) (n nx : Int) : Rel (T.added rv B k d) ⟨t, lv, R.es ++ [⟨k, d, n⟩], nx⟩ := by
  unfold Rel at *
  rw [TT.added_live, List.map_append, h]
  simp [RR.pr, EE.pr]
theorem TT.find_none {T : TT} {k : KK} (h : T.find k = none) : ∀ r ∈ T.live, r.k ≠ k := by
  intro r hr
  have := List.find?_eq_none.1 h r hr
  simpa using this
theorem pair_inj {α β : Type} {f : α → β} {l : List α} (h : l.Pairwise (fun a b => f a ≠ f b)) {a b : α} (ha : a ∈ l) (hb : b ∈ l) (he : f a = f b) : a = b := by
  induction l with
  | nil => cases ha
  | cons x l ih =>
    obtain ⟨h1, h2⟩ := List.pairwise_cons.1 h
    rcases List.mem_cons.1 ha with e1 | ha'
    · rcases List.mem_cons.1 hb with e2 | hb'
      · rw [e1, e2]
      · rw [e1] at he
        exact absurd he (h1 b hb')
    · rcases List.mem_cons.1 hb with e2 | hb'
      · rw [e2] at he
        exact absurd he.symm (h1 a ha')
      · exact ih h2 ha' hb'
def setP (k : KK) (d : DD) (p : KK × DD) : KK × DD := if p.1 = k then (p.1, d) else p
theorem Rel.upd {T : TT} {R : RT} {W : World} (h : Rel T R) (hT : T.Is W) {k : KK} {r : RR} (hf : T.find k = .some r) {a b : List EE} {x : EE} (he : R.es = a ++ x :: b) (hg : R.find k = .some a.length) (t : Nat) (lv : Value) (d : DD) (nx : Int) : Rel (T.upd r.b d) ⟨t, lv, a ++ ⟨x.k, d, x.n⟩ :: b, nx⟩ := by
  obtain ⟨hr1, hr2, hr3⟩ := TT.find_mem hf
  have hrl : r ∈ T.live := List.mem_of_find?_eq_some hf
  have hnd : (T.rows.map (·.b)).Nodup := by
    have := hT.nd
    unfold TT.blocks at this
    rw [List.nodup_cons, List.nodup_cons, List.nodup_append] at this
    exact this.2.2.2.1
  have hnp : T.rows.Pairwise (fun a b => a.b ≠ b.b) := by
    unfold List.Nodup at hnd
    rwa [List.pairwise_map] at hnd
  have hL : (T.upd r.b d).live.map RR.pr = (T.live.map RR.pr).map (setP k d) := by
    rw [TT.upd_live, List.map_map, List.map_map]
    apply List.map_congr_left
    intro q hq
    have hqr : q ∈ T.rows := (List.mem_filter.1 hq).1
    simp only [Function.comp]
    unfold updR setP RR.pr
    by_cases e : q.b = r.b
    · have := pair_inj hnp hqr hr1 e
      subst this
      simp [hr3]
    · have e2 : q.k ≠ k := by
        intro e3
        apply e
        rw [pair_inj (f := RR.k) hT.keys hq hrl (e3.trans hr3.symm)]
      simp [e, e2]
  have hkeys : R.es.Pairwise (fun a b => a.k ≠ b.k) := by
    have h1 := hT.keys
    have h2 : (T.live.map (·.k)).Pairwise (fun a b => a ≠ b) := by rw [List.pairwise_map]; exact h1
    rw [h.keys, List.pairwise_map] at h2
    exact h2
  have hxk : x.k = k := by
    obtain ⟨hi, hk⟩ := RT.find_lt hg
    simpa [he] using hk
  have hR : (a ++ (⟨x.k, d, x.n⟩ : EE) :: b).map EE.pr = (R.es.map EE.pr).map (setP k d) := by
    rw [he] at hkeys ⊢
    have hp := List.pairwise_append.1 hkeys
    have hp2 := List.pairwise_cons.1 hp.2.1
    rw [List.map_map, List.map_append, List.map_append, List.map_cons, List.map_cons]
    congr 1
    · apply List.map_congr_left
      intro q hq
      have := hp.2.2 q hq x (by simp)
      simp [setP, EE.pr, ← hxk, this]
    · congr 1
      · simp [setP, EE.pr, hxk]
      · apply List.map_congr_left
        intro q hq
        have := hp2.1 q hq
        simp [setP, EE.pr, ← hxk, Ne.symm this]
  unfold Rel
  rw [hL, hR]
  unfold Rel at h
  rw [h]
end Go.Proofs.YtmemceindohklaaDoor

/-! Nd -/
namespace Go.Proofs.YtmemceindohklaaDoor
open Go Go.Proofs Go.Maps Go.RowKit
set_option linter.unusedSimpArgs false
set_option linter.unusedVariables false
set_option maxHeartbeats 1000000
/-- The cells of a pair of tables. -/
def pairCs (t0 t1 r0 r1 : Nat) (left : Int) : List Value := [.pointer (some ⟨t0, 0, none⟩), .pointer (some ⟨t1, 0, none⟩), .pointer (some ⟨r0, 0, none⟩), .pointer (some ⟨r1, 0, none⟩), .int .i64 left]
end Go.Proofs.YtmemceindohklaaDoor

/-! Mz -/
namespace Go.Proofs.YtmemceindohklaaDoor
open Go Go.Proofs Go.Maps Go.RowKit
set_option linter.unusedSimpArgs false
set_option linter.unusedVariables false
set_option maxHeartbeats 1000000
theorem cput_nil (cs : List Value) (p : Nat) : cput cs p [] = cs := by simp [cput]
theorem setCells_obj {e : TypeId} {fr : Nat × Nat} (g : Nat) : ∀ (vs : List Value) (p : Nat) (W : World) (cur : Array Value), W.heap[g]? = some (.cells cur e fr) → p + vs.length ≤ cur.size → ∃ cur' : Array Value, (W.setCells g p vs).heap[g]? = some (.cells cur' e fr) ∧ cur'.toList = cput cur.toList p vs
  | [], p, W, cur, h, _ => ⟨cur, h, (cput_nil _ _).symm⟩
  | v :: vs, p, W, cur, h, hp => by
    simp only [List.length_cons] at hp
    have h1 : (W.setCell ⟨g, p, none⟩ v).heap[g]? = some (.cells (cur.setIfInBounds p v) e fr) := by
      obtain ⟨hlt, hk⟩ := Array.getElem?_eq_some_iff.1 h
      show (W.heap.modify g _)[g]? = _
      rw [Array.getElem?_eq_getElem (by rw [Array.size_modify]; exact hlt), Array.getElem_modify_self, hk]
      rfl
    obtain ⟨cur', h2, h3⟩ := setCells_obj g vs (p + 1) _ _ h1 (by simp; omega)
    refine ⟨cur', h2, ?_⟩
    rw [h3]
    have hpl : p < cur.toList.length := by simp; omega
    unfold cput
    have e1 : (cur.setIfInBounds p v).toList = cur.toList.set p v := by simp
    rw [e1, List.take_set, List.drop_set_of_lt (by omega), List.take_succ_eq_append_getElem hpl]
    simp only [List.length_cons]
    rw [List.set_append_right _ _ (by simp; omega), show p + 1 + vs.length = p + (vs.length + 1) by omega]
    have e2 : p - (cur.toList.take p).length = 0 := by simp; omega
    rw [e2]
    simp
theorem cput_app (A Y vs : List Value) (p : Nat) : cput (A ++ Y) (A.length + p) vs = A ++ cput Y p vs := by
  unfold cput
  rw [List.take_append, List.drop_append, List.take_of_length_le (by omega), List.drop_eq_nil_of_le (by omega), show A.length + p - A.length = p by omega, show A.length + p + vs.length - A.length = p + vs.length by omega]
  simp
theorem cput_left (A B vs : List Value) (p : Nat) (h : p + vs.length ≤ A.length) : cput (A ++ B) p vs = cput A p vs ++ B := by
  unfold cput
  rw [List.take_append_of_le_length (by omega), List.drop_append_of_le_length h]
  simp
theorem cput_length (cs vs : List Value) (p : Nat) (h : p + vs.length ≤ cs.length) : (cput cs p vs).length = cs.length := by
  unfold cput
  rw [List.length_append, List.length_append, List.length_take, List.length_drop]
  omega
theorem own_set {w : World} {base e s n g c p : Nat} {xs vs : List Value} (h : w.ownsRow base e s (.slice (some ⟨g, 0, none⟩) n c) n xs) (hp : p + vs.length ≤ xs.length) : (w.setCells g p vs).ownsRow base e s (.slice (some ⟨g, 0, none⟩) n c) n (cput xs p vs) := by
  obtain ⟨h1, h2⟩ := h
  rcases h2 with ⟨h2, -⟩ | ⟨g', cap, cur, he, h3, h4, h5, h6, h7, h8⟩
  · cases h2
  · cases he
    have hle : n * s ≤ cur.size := by rw [h7]; exact Nat.mul_le_mul_right _ h5
    obtain ⟨cur', h9, h10⟩ := setCells_obj g vs p w cur h4 (by omega)
    have hd : cur.toList = xs ++ cur.toList.drop (n * s) := by rw [← h8, List.take_append_drop]
    rw [hd, cput_left _ _ _ _ hp] at h10
    have hcl := cput_length xs vs p hp
    have hs' : cur'.size = cur.size := by
      have e1 : cur'.toList.length = cur.toList.length := by rw [h10, List.length_append, hcl, ← List.length_append, ← hd]
      simpa using e1
    refine ⟨by rw [hcl, h1], .inr ⟨g, c, cur', rfl, h3, h9, h5, h6, by rw [hs']; exact h7, ?_⟩⟩
    rw [h10, List.take_append_of_le_length (by omega), List.take_of_length_le (by omega)]
theorem flatE_len : ∀ l : List EE, (flatE l).length = l.length * 21
  | [] => rfl
  | x :: l => by
    have := flatE_len l
    unfold flatE at *
    rw [List.flatMap_cons, List.length_append, this]
    show 21 + l.length * 21 = (l.length + 1) * 21
    omega
theorem flatE_mid (a b : List EE) (x : EE) : flatE (a ++ x :: b) = flatE a ++ (x.cs ++ flatE b) := by
  unfold flatE
  rw [List.flatMap_append, List.flatMap_cons]
theorem flatE_set (a b : List EE) (x : EE) (d : DD) : flatE (a ++ ⟨x.k, d, x.n⟩ :: b) = cput (flatE (a ++ x :: b)) (a.length * 21 + 2) d.cs := by
  rw [flatE_mid, flatE_mid, ← flatE_len a, cput_app, cput_left _ _ _ _ (by show 2 + 18 ≤ 21; omega)]
  rfl
end Go.Proofs.YtmemceindohklaaDoor

/-! Na -/
namespace Go.Proofs.YtmemceindohklaaDoor
open Go Go.Proofs Go.Maps Go.RowKit
theorem own_holds {w : World} {base e s n g c : Nat} {xs : List Value} (h : w.ownsRow base e s (.slice (some ⟨g, 0, none⟩) n c) n xs) : Holds w g xs := by
  refine ⟨fun j => ?_, fun j u hu => ?_⟩
  · rcases h.2 with ⟨h1, -⟩ | ⟨g', cap, cur, h1, h2, h3, -⟩
    · cases h1
    · cases h1
      simp [World.frozen?, h3]
  · have := h.cells (g := g) rfl j u hu
    rwa [Addr.add_mid] at this
end Go.Proofs.YtmemceindohklaaDoor

/-! Nb -/
namespace Go.Proofs.YtmemceindohklaaDoor
open Go Go.Proofs Go.Maps Go.RowKit
set_option linter.unusedSimpArgs false
set_option linter.unusedVariables false
set_option maxHeartbeats 1000000
theorem fresh_blocks {W w : World} {v v' : Value} {t : Nat} (hf : Fresh W v v') (hnr : ∀ q, q = t ∨ w.heap.size ≤ q → some q ≠ v.ownBlock) (hs : w.heap.size ≤ W.heap.size) (ht : t < W.heap.size) : ∀ gg, v'.ownBlock = some gg → (v.ownBlock = some gg ∨ w.heap.size ≤ gg) ∧ gg ≠ t := by
  intro gg hgg
  rcases hf with h | h
  · rw [hgg] at h
    exact ⟨.inl h.symm, fun e => hnr gg (.inl e) h⟩
  · rw [hgg] at h
    have h2 := Option.some.inj h
    exact ⟨.inr (by omega), by omega⟩
theorem ex_appendF {a : Act} {w : World} {o : Oper} {t e : TypeId} {size bytes k m c B base : Nat} {z v : Value} {xs news : List Value} {s x : Operand} (ho : o.op = .call { callee := .builtin .append, args := #[s, x], argTypes := #[t, t] }) (hs : a.eval s = v) (hx : a.eval x = .slice (some ⟨B, 0, none⟩) m c)
    (ht : Tryd.prog.underlying t = some (.slice e)) (hi : (Tryd.prog.info? e).map (fun i => (i.zero, i.size, i.bytes)) = some (some z, size, bytes)) (hz : z.cells.size = size) (hsz : 0 < size) (hown : w.ownsRow base e size v k xs) (hB : Holds w B news) (hl : news.length = m * size) (h1 : ∀ u ∈ news, u.oneCell' = true)
    (hn : k + m ≤ 1000000) (hby : bytes ≤ 10000) (hbase : base ≤ w.heap.size) :
    ∃ A c' w', (execOp a.eval o).run Tryd.prog w = .ok (.value (.slice A (k + m) c')) w' ∧ w'.ownsRow base e size (.slice A (k + m) c') (k + m) (xs ++ news) ∧ w.grownBy w' v.ownBlock ∧ Fresh w v (.slice A (k + m) c') := by
  obtain ⟨i0, hi, hz0, hz1, hz2⟩ := info_parts hi
  obtain ⟨v', w', hrun, h2, h3, h4⟩ := append_fresh w base t o.type e i0 _ size bytes ht hi hz0 hz1 hz2 hz hsz v k xs hown ⟨B, 0, none⟩ m c news hl (fun j u hj => by
    rw [Addr.add_mid]
    exact hB.2 j u hj) h1 (by unfold maxLen; omega) (Nat.le_trans (Nat.mul_le_mul hn hby) (by decide)) hbase
  obtain ⟨A', c', rfl⟩ := own_form h2
  refine ⟨A', c', w', ?_, h2, h3, h4⟩
  simp [execOp, ho, resolve, invoke, builtin, hs, hx, hrun, Result.andThen]
theorem gappF {md : Region.Mode} {ops : Array Oper} {Q : Exit → Act → World → Prop} {S : World → Prop} {w : World} {fuel : Nat} {listed : Array Bool} {a : Act} {o : Oper} {rs : List Nat} (i : Nat) (dst : Option Tmp) {t e : TypeId} {size bytes k m c B base : Nat} {z v : Value} {xs news : List Value} {s x : Operand} (hi0 : ops[i]? = some o) (hd : o.dst = dst) (hw : Region.wanted o (yielded ops a.tmps) = true) (ho : o.op = .call { callee := .builtin .append, args := #[s, x], argTypes := #[t, t] }) (hs : a.eval s = v) (hx : a.eval x = .slice (some ⟨B, 0, none⟩) m c)
    (ht : Tryd.prog.underlying t = some (.slice e)) (hi : (Tryd.prog.info? e).map (fun i => (i.zero, i.size, i.bytes)) = some (some z, size, bytes)) (hz : z.cells.size = size) (hsz : 0 < size) (hown : w.ownsRow base e size v k xs) (hB : Holds w B news) (hl : news.length = m * size) (h1 : ∀ u ∈ news, u.oneCell' = true)
    (hn : k + m ≤ 1000000) (hby : bytes ≤ 10000) (hbase : base ≤ w.heap.size) (hon : ∀ X, w.grownBy X v.ownBlock → S X)
    (h : ∀ A c' X, X.ownsRow base e size (.slice A (k + m) c') (k + m) (xs ++ news) → w.grownBy X v.ownBlock → Fresh w v (.slice A (k + m) c') → wpAnyH Tryd.prog md ops Q S fuel (listed.setIfInBounds i true) (a.put dst (.slice A (k + m) c')) X) (hs2 : AllReadyH Tryd.prog md ops Q S fuel listed a w rs) : AllReadyH Tryd.prog md ops Q S fuel listed a w (i :: rs) := by
  obtain ⟨A, c', w', he, h2, h3, h4⟩ := ex_appendF ho hs hx ht hi hz hsz hown hB hl h1 hn hby hbase
  exact gval i dst hi0 hd hw he (hon w' h3) (h A c' w' h2 h3 h4) hs2
theorem siz3 : (Tryd.prog.info? 3).map (·.size) = some 1 := by kernel_rfl
end Go.Proofs.YtmemceindohklaaDoor
