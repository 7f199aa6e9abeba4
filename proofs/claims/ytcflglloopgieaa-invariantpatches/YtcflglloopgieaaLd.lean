import Derived.Test.YtcflglloopgieaaLc
namespace Go.Proofs.Ytcflglloopgieaa
open Go Go.Proofs Go.Maps Go.RowKit FM
set_option linter.unusedSimpArgs false
set_option linter.unusedVariables false
set_option maxHeartbeats 1000000

theorem flat_put {α : Type} (f : α → List Value) (k : Nat) (hk : ∀ a, (f a).length = k) {l : List α} {j : Nat} {x x' : α} {p : Nat} {vs : List Value} (hx : l[j]? = some x) (hp : p + vs.length ≤ k) (he : cput (f x) p vs = f x') : cput (l.flatMap f) (0 + j * k + p) vs = (l.set j x').flatMap f := by
  obtain ⟨hj, rfl⟩ := List.getElem?_eq_some_iff.1 hx
  have e1 : l = l.take j ++ l[j] :: l.drop (j + 1) := by
    conv => lhs; rw [← List.take_append_drop j l, List.drop_eq_getElem_cons hj]
  have e2 : l.set j x' = l.take j ++ x' :: l.drop (j + 1) := by rw [List.set_eq_take_append_cons_drop, if_pos hj]
  rw [e2]
  conv => lhs; rw [e1]
  rw [List.flatMap_append, List.flatMap_cons, List.flatMap_append, List.flatMap_cons]
  have e3 : ((l.take j).flatMap f).length = j * k := by rw [flat_len f k hk, List.length_take, Nat.min_eq_left (by omega)]
  rw [Nat.zero_add, ← e3, cput_app, cput_left _ _ _ _ (by rw [hk]; exact hp), he]
theorem own_there {W : World} {base e s n g c p m : Nat} {xs : List Value} (h : W.ownsRow base e s (.slice (some ⟨g, 0, none⟩) n c) n xs) (hp : p + m ≤ xs.length) : W.there g p m := by
  rcases h.2 with ⟨e1, -⟩ | ⟨g', cap, cur, e1, -, h6, h7, h8, h9, h10⟩
  · cases e1
  · cases e1
    intro t ht
    refine ⟨?_, by simp [World.frozen?, h6]⟩
    have hl : xs.length ≤ cur.size := by rw [← h10, List.length_take, Array.length_toList]; exact Nat.min_le_right _ _
    have : (⟨g, p, none⟩ : Addr).block = g := rfl
    simp only [World.cell?, h6]
    simp
    omega
section
variable {ops : Array Oper} {rest : List Oper} {Q : Exit → Act → World → Prop} {w w0 : World} {a : Act} {o : Oper} {E : List Nat} {L : List Ob}
/-- A store into an element of a row. -/
theorem stE {α : Type} (f : α → List Value) (k : Nat) (hk : ∀ a, (f a).length = k) {base ety g c n j p q : Nat} {l : List α} {x' x0 : α} {vs : List Value} {v : Value} {x y : Operand} (i : Nat) (ty : TypeId) (hw : Region.wanted o (yielded ops a.tmps) = true) (ho : o.op = .store ty x y) (hx : a.eval x = .pointer (some ⟨g, q, none⟩)) (hy : a.eval y = v)
    (hv : v.cells.toList = vs) (h1 : ∀ u ∈ vs, u.oneCell' = true) (hi : (Try.prog.info? ty).map (·.size) = some vs.length) (hL : Sy w0 w E L) (hg : L[i]? = some (rowO base ety k (.slice (some ⟨g, 0, none⟩) n c) n (l.flatMap f))) (hn : l.length = n) (hr : l[j]? = some x0) (hp : p + vs.length ≤ k) (he : cput (f x0) p vs = f x') (hq : q = 0 + j * k + p)
    (h : ∀ X, Sy w0 X E (L.set i (rowO base ety k (.slice (some ⟨g, 0, none⟩) n c) n ((l.set j x').flatMap f))) → wpList Try.prog ops Q rest (a.put o.dst undef) X) : wpList Try.prog ops Q (o :: rest) a w := by
  subst hq
  refine BigFrame.wpList_want hw fun K hK => ?_
  have hj := (List.getElem?_eq_some_iff.1 hr).1
  have hlen : 0 + j * k + p + vs.length ≤ (l.flatMap f).length := by
    rw [flat_len f k hk]
    have h2 : (j + 1) * k ≤ l.length * k := Nat.mul_le_mul_right k hj
    rw [Nat.add_mul] at h2
    omega
  have hC := hL.cell i hg (p := 0 + j * k + p) (vs := vs) hlen
  rw [flat_put f k hk hr hp he] at hC
  have hP := hK _ _ (h _ hC)
  unfold Oper.wp execOp
  simp only [ho, hx, hy, Instr.storeAt, Instr.sureAddr, Sem.run_bind, Sem.run_pure, Result.andThen_ok, run_storeVar_any w g (0 + j * k + p) ty v vs hv (own_there (hL.get i hg) hlen) hi h1]
  exact hP
end
theorem sliceV (A : Option Addr) (n cap p : Nat) (hp0 : p ≠ 0) (hp : p ≤ n) (hn : n ≤ cap) (hA : ∃ b off, A = some ⟨b, off, none⟩) : ∃ A' : Option Addr, A' ≠ none ∧ (∀ b off, A = some ⟨b, off, none⟩ → n - p ≠ 0 → A' = some ⟨b, off + p * 20, none⟩) ∧ ∀ w : World, (Instr.sliceAt 46 (.slice A n cap) (some (.int .i64 (p : Nat))) none none).run Try.prog w = .ok (.slice A' (n - p) (cap - p)) w := by
  obtain ⟨b, off, rfl⟩ := hA
  refine ⟨if cap = p then some ⟨b, off, none⟩ else some ⟨b, off + p * 20, none⟩, by split <;> simp, fun b' off' h h2 => ?_, fun w => ?_⟩
  · rw [if_neg (by omega)]
    simp only [Option.some.injEq, Addr.mk.injEq] at h ⊢
    obtain ⟨rfl, rfl, -⟩ := h
    exact ⟨rfl, rfl, trivial⟩
  rw [run_sliceAt_slice (h := by kernel_rfl), run_slice_l (ht := by kernel_rfl) (h0 := by omega) (h1 := by omega)]
  have e : (sizeOf (Try.prog.elem 46)).run Try.prog w = .ok 20 w := by kernel_rfl
  rw [e]
  by_cases h1 : cap = p
  · simp [sliced, Addr.add, Result.andThen, hp0, h1]
  · have h2 : ¬ p * 20 = 0 := by omega
    simp [sliced, Addr.add, Result.andThen, hp0, h1, h2]
theorem gappR {md : Region.Mode} {ops : Array Oper} {Q : Exit → Act → World → Prop} {S : World → Prop} {w : World} {fuel : Nat} {listed : Array Bool} {a : Act} {o : Oper} {rs : List Nat} (i : Nat) (dst : Option Tmp) {c base k : Nat} {A : Option Addr} {v : Value} {xs : List Value} {l : List PR} {s x : Operand} (hi0 : ops[i]? = some o) (hd : o.dst = dst) (hw : Region.wanted o (yielded ops a.tmps) = true) (ho : o.op = .call { callee := .builtin .append, args := #[s, x], argTypes := #[46, 46] }) (hs : a.eval s = v) (hx : a.eval x = .slice A l.length c)
    (hown : w.ownsRow base 56 20 v k xs) (hR : ReadsP w A l) (hc : A = none → c = 0) (hn : k + l.length ≤ 1000000) (hbase : base ≤ w.heap.size) (hon : ∀ X, w.grownBy X v.ownBlock → S X)
    (h : ∀ A' c' X, X.ownsRow base 56 20 (.slice A' (k + l.length) c') (k + l.length) (xs ++ flatP l) → w.grownBy X v.ownBlock → Fresh w v (.slice A' (k + l.length) c') → wpAnyH Try.prog md ops Q S fuel (listed.setIfInBounds i true) (a.put dst (.slice A' (k + l.length) c')) X) (hs2 : AllReadyH Try.prog md ops Q S fuel listed a w rs) : AllReadyH Try.prog md ops Q S fuel listed a w (i :: rs) := by
  obtain ⟨A', c', w', he, h2, h3, h4⟩ := ex_appR ho hs hx hown hR hc hn hbase
  exact gval i dst hi0 hd hw he (hon w' h3) (h A' c' w' h2 h3 h4) hs2
theorem Sy.empty {w X : World} {E : List Nat} {L : List Ob} (h : Sy w X E L) (base : Nat) (hb : base ≤ X.heap.size) : Sy w (X.alloc (Obj.cells #[] 56)) E (rowO base 56 20 (.slice (some ⟨X.heap.size, 0, none⟩) 0 0) 0 [] :: L) :=
  (h.add (o := rowO base 56 20 (.slice (some ⟨X.heap.size, 0, none⟩) 0 0) 0 []) (rowO_ok _ _ _ _ _ _) ⟨rfl, .inr ⟨X.heap.size, 0, #[], rfl, hb, (MapKept.heap_alloc X _).1, Nat.le_refl _, Nat.zero_le _, by simp, by simp⟩⟩ ((Below.refl _ _).alloc (Nat.le_refl _) _) (fun b hb2 => by
    have : b = X.heap.size := by simpa [rowO, Value.ownBlock, eq_comm] using hb2
    omega)).front
theorem ex_none {o : Oper} {a : Act} {w : World} (ho : o.op = .buildSlice 46 0 #[]) : (execOp a.eval o).run Try.prog w = .ok (.value (.slice (some ⟨w.heap.size, 0, none⟩) 0 0)) (w.alloc (Obj.cells #[] 56)) := by
  unfold execOp
  simp only [ho, List.map_toArray, List.map_nil]
  simp [none26 w]
theorem ex_gtI {o : Oper} {a : Act} {w : World} {x y : Operand} {n m : Int} {r : Bool} (ho : o.op = .binOp .gtr 3 x y 3) (hx : a.eval x = .int .i64 n) (hc : a.eval y = .int .i64 m) (h : decide (m < n) = r) : (execOp a.eval o).run Try.prog w = .ok (.value (.bool r)) w := by
  unfold execOp
  simp only [ho, hx, hc]
  simp [go_sem, eqGuard, h]
theorem at3 {a b c : Ob} {M : List Ob} {j : Nat} {o : Ob} (h : M[j]? = some o) : (a :: b :: c :: M)[j + 1 + 1 + 1]? = some o := by simpa using h
theorem at4 {a b c d : Ob} {M : List Ob} {j : Nat} {o : Ob} (h : M[j]? = some o) : (a :: b :: c :: d :: M)[j + 1 + 1 + 1 + 1]? = some o := by simpa using h
theorem at5 {a b c d e : Ob} {M : List Ob} {j : Nat} {o : Ob} (h : M[j]? = some o) : (a :: b :: c :: d :: e :: M)[j + 1 + 1 + 1 + 1 + 1]? = some o := by simpa using h
theorem map_at {base : Nat} {cl : List CE} {j : Nat} {e : CE} (h : cl[j]? = some e) : (cl.map (rowP base))[j]? = some (rowP base e) := by simp [h]
theorem shO_same {base : Nat} {v : Value} {cl : List CE} {j : Nat} {e e' : CE} (h : cl[j]? = some e) (hA : e'.A = e.A) (hc : e'.cap = e.cap) (hp : e'.s.ps = e.s.ps) : shO base v (cl.set j e') = rowO base 48 8 v cl.length ((cl.set j e').flatMap CE.cs) :: cl.map (rowP base) := by
  have e1 : (cl.set j e').map (rowP base) = cl.map (rowP base) := by
    rw [List.map_set]
    apply List.ext_getElem?
    intro i
    rw [List.getElem?_set]
    split
    · rename_i hi
      subst hi
      obtain ⟨hj, rfl⟩ := List.getElem?_eq_some_iff.1 h
      simp [hj, rowP, hA, hc, hp]
    · rfl
  unfold shO rowS
  rw [e1, List.length_set]
theorem shO_new {w X : World} {E : List Nat} {base : Nat} {v : Value} {cl : List CE} {j : Nat} {e' : CE} (hj : j < cl.length) (h : Sy w X E (rowO base 48 8 v cl.length ((cl.set j e').flatMap CE.cs) :: cl.map (rowP base) ++ [rowP base e'])) : Sy w X E (shO base v (cl.set j e')) := by
  have h1 := h.swap (j + 1) (by simp; exact hj)
  unfold shO rowS
  rw [List.length_set, List.map_set]
  exact h1
def GC2 (m : Nat) (e : CE) : Prop := e.s.p.x < 2 ^ 64 ∧ e.s.ps.length ≤ m ∧ ∀ p ∈ e.s.ps, OkP p
theorem fx_found {ps : List PR} {k : KK} (h : fx ps k < ps.length) : ∃ (m : Nat) (p : PR), m < ps.length ∧ fI ps k = (m : Int) ∧ ps[m]? = some p ∧ p.k = k ∧ ∀ q ∈ ps.take m, q.k ≠ k := by
  have h1 : (ps[fx ps k]'h).k = k := by
    exact of_decide_eq_true (List.findIdx_getElem (p := fun p : PR => decide (p.k = k)) (w := h))
  refine ⟨fx ps k, ps[fx ps k]'h, h, by simp [fI, h], List.getElem?_eq_getElem h, h1, fun q hq e => ?_⟩
  obtain ⟨j, hj⟩ := List.getElem?_of_mem hq
  rw [List.getElem?_take] at hj
  split at hj
  · rename_i hlt
    obtain ⟨hjl, rfl⟩ := List.getElem?_eq_some_iff.1 hj
    have := List.not_of_lt_findIdx (p := fun p : PR => decide (p.k = k)) (xs := ps) (i := j) hlt
    simp [e] at this
  · cases hj
theorem fx_none {ps : List PR} {k : KK} (h : ¬ fx ps k < ps.length) : fI ps k = -1 ∧ ∀ q ∈ ps, q.k ≠ k := by
  refine ⟨by simp [fI, h], fun q hq e => h ?_⟩
  exact List.findIdx_lt_length_of_exists ⟨q, hq, by simp [e]⟩
theorem split_ps {ps : List PR} {m : Nat} {p : PR} (hp : ps[m]? = some p) : ps = ps.take m ++ p :: ps.drop (m + 1) := by
  obtain ⟨hm, rfl⟩ := List.getElem?_eq_some_iff.1 hp
  conv => lhs; rw [← List.take_append_drop m ps, List.drop_eq_getElem_cons hm]
theorem del_found {ps : List PR} {k : KK} {m : Nat} {p : PR} (hp : ps[m]? = some p) (hk : p.k = k) (hf : ∀ q ∈ ps.take m, q.k ≠ k) : delP k ps = some (ps.take m ++ ps.drop (m + 1)) := by
  conv => lhs; rw [split_ps hp, ← hk]
  exact delP_at _ _ _ (by rw [hk]; exact hf)
theorem put_found {ps : List PR} {k : KK} {d : DD} {m : Nat} {p : PR} (hp : ps[m]? = some p) (hk : p.k = k) (hf : ∀ q ∈ ps.take m, q.k ≠ k) : putP k d ps = ps.set m ⟨p.k, d⟩ := by
  have hm := (List.getElem?_eq_some_iff.1 hp).1
  rw [List.set_eq_take_append_cons_drop, if_pos hm]
  conv => lhs; rw [split_ps hp, ← hk]
  exact putP_at _ _ _ _ (by rw [hk]; exact hf)
theorem Sy.second {w X : World} {E : List Nat} {L : List Ob} {a b : Ob} (h : Sy w X E (a :: b :: L)) : Sy w X E (a :: L) := (h.perm (List.Perm.swap b a L)).tail
theorem own_none {w : World} {base e s n : Nat} {A : Option Addr} {c : Nat} {xs : List Value} (h : w.ownsRow base e s (.slice A n c) n xs) (hA : A = none) : c = 0 := by
  rcases h.2 with ⟨h1, -⟩ | ⟨g, cap, cur, h1, -⟩
  · cases h1; rfl
  · rw [hA] at h1; cases h1
end Go.Proofs.Ytcflglloopgieaa
