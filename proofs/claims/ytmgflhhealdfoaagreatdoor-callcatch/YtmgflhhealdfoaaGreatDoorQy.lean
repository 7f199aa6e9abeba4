import Derived.Test.YtmgflhhealdfoaaGreatDoorQu
import Derived.Test.YtmgflhhealdfoaaGreatDoorQx
import Derived.Defers
set_option linter.all false
namespace Go.Proofs.YtmgflhhealdfoaaGreatDoor
set_option maxHeartbeats 1000000
section
open Go Go.Proofs Go.Maps Go.RowKit FM
theorem n1 {α : Type} (l : List α) (i : Nat) (a : α) : l.toArray.setIfInBounds i a = (l.set i a).toArray := by simp
theorem n2 {α : Type} (x : α) (xs : List α) (i : Nat) (a : α) : (x :: xs).set (i + 1) a = x :: xs.set i a := rfl
theorem n3 {α : Type} (x : α) (xs : List α) (a : α) : (x :: xs).set 0 a = a :: xs := rfl
theorem ret_c {fn : Func} {R : Ending → World → Prop} {a : Act} {w : World} {b r T n : Nat} {cs : List Value} (hT : ∃ d, Tryz.prog.underlying T = some d ∧ d.isRow = true) (hn : (Tryz.prog.info? T).map (·.size) = some n) (hr : fn.results = #[.cell r T]) (hdf : a.defers = [])
    (hx : a.tmps.getD r undef = .pointer (some ⟨b, 0, none⟩)) (hc : Holds w b cs) (hcs : cs.length = n) (h : R (.returned (.agg cs.toArray)) w) : bodyPost Tryz.prog fn R .ret a w := by
  obtain ⟨t, hu, hd⟩ := hT
  have h0 := hc.mid 0 n
  rw [List.drop_zero, List.take_of_length_le (by omega)] at h0
  have hl := run_loadVar_mid (P := Tryz.prog) w b 0 T _ t h0 hu hd (by rw [hn, hcs])
  refine ⟨hdf, _, ?_, h⟩
  simp only [Array.getD_eq_getD_getElem?] at hx
  unfold results
  simp [hr, hx, hl, asAddr]
  try rfl
theorem ex_lenG {o : Oper} {a : Act} {w : World} {m : Operand} {A : Option Addr} {n c : Nat} (t e : TypeId) (ht : Tryz.prog.underlying t = some (.slice e)) (ho : o.op = .call { callee := .builtin .len, args := #[m], argTypes := #[t] }) (hm : a.eval m = .slice A n c) : (execOp a.eval o).run Tryz.prog w = .ok (.value (.int .i64 (n : Nat))) w := by
  simp [execOp, ho, resolve, invoke, builtin, hm, Builtin.len_, Result.andThen, goInt, ht, run_underlying ht]
theorem ex_eqYes {o : Oper} {a : Act} {w : World} {x y : Operand} {n m : Int} (ho : o.op = .binOp .eql 3 x y 3) (hx : a.eval x = .int .i64 n) (hc : a.eval y = .int .i64 m) (h : n = m) : (execOp a.eval o).run Tryz.prog w = .ok (.value (.bool true)) w := by
  unfold execOp
  simp only [ho, hx, hc]
  simp [go_sem, eqGuard, h]
theorem ex_eqNo {o : Oper} {a : Act} {w : World} {x y : Operand} {n m : Int} (ho : o.op = .binOp .eql 3 x y 3) (hx : a.eval x = .int .i64 n) (hc : a.eval y = .int .i64 m) (h : n ≠ m) : (execOp a.eval o).run Tryz.prog w = .ok (.value (.bool false)) w := by
  unfold execOp
  simp only [ho, hx, hc]
  simp [go_sem, eqGuard, h]
theorem flat_len {α : Type} (f : α → List Value) (k : Nat) (hk : ∀ a, (f a).length = k) : ∀ l : List α, (l.flatMap f).length = l.length * k
  | [] => by simp
  | d :: l => by
    rw [List.flatMap_cons, List.length_append, hk, flat_len f k hk l, List.length_cons, Nat.add_mul, Nat.one_mul, Nat.add_comm]
theorem flat_get {α : Type} (f : α → List Value) (k : Nat) (hk : ∀ a, (f a).length = k) : ∀ (l : List α) (j t : Nat) (hj : j < l.length), t < k → (l.flatMap f)[j * k + t]? = (f l[j])[t]?
  | [], j, t, hj, _ => by simp at hj
  | d :: l, 0, t, hj, ht => by
    rw [List.flatMap_cons, Nat.zero_mul, Nat.zero_add, List.getElem?_append_left (by rw [hk]; exact ht)]
    simp
  | d :: l, j + 1, t, hj, ht => by
    have e : (j + 1) * k + t - k = j * k + t := by rw [Nat.add_mul]; omega
    rw [List.flatMap_cons, List.getElem?_append_right (by rw [hk, Nat.add_mul]; omega), hk, e, flat_get f k hk l j t (by simpa using hj) ht]
    simp
theorem own_row {α : Type} {f : α → List Value} {k : Nat} (hk : ∀ a, (f a).length = k) {W : World} {base T n : Nat} {v : Value} {l : List α} (h : W.ownsRow base T k v n (l.flatMap f)) (hn : l.length = n) (j : Nat) (hj : j < l.length) : ∃ g c, v = .slice (some ⟨g, 0, none⟩) n c ∧ base ≤ g ∧ g < W.heap.size ∧ W.rangeAt g (0 + j * k) (f l[j]) := by
  rcases h.2 with ⟨h1, h0⟩ | ⟨g, cap, cur, h1, h2, h3, h4, h5, h6, h7⟩
  · omega
  · refine ⟨g, cap, h1, h2, (Array.getElem?_eq_some_iff.1 h3).1, fun t u hu => ?_⟩
    have ht : t < k := by
      have := (List.getElem?_eq_some_iff.1 hu).1
      rwa [hk] at this
    have hlt : j * k + t < n * k := by
      have : (j + 1) * k ≤ n * k := Nat.mul_le_mul_right k (by omega)
      rw [Nat.add_mul] at this
      omega
    have h8 : (cur.toList.take (n * k))[j * k + t]? = (l.flatMap f)[j * k + t]? := by rw [h7]
    rw [List.getElem?_take, if_pos hlt, flat_get f k hk l j t hj ht, hu] at h8
    have e2 : cur[j * k + t]? = some u := by simpa using h8
    rw [Nat.zero_add]
    simp [World.cell?, h3, e2]
theorem own_blk {w w' : World} {base e s n : Nat} {v : Value} {xs : List Value} (h : w.ownsRow base e s v n xs) (he : ∀ g, v.ownBlock = some g → w'.heap[g]? = w.heap[g]?) : w'.ownsRow base e s v n xs := by
  obtain ⟨h1, h2⟩ := h
  refine ⟨h1, ?_⟩
  rcases h2 with h2 | ⟨g, cap, cur, rfl, h3, h4, h5⟩
  · exact .inl h2
  · exact .inr ⟨g, cap, cur, rfl, h3, (he g rfl).trans h4, h5⟩
theorem gcallR {md : Region.Mode} {ops : Array Oper} {Q : Exit → Act → World → Prop} {S : World → Prop} {w : World} {fuel : Nat} {listed : Array Bool} {a : Act} {o : Oper} (i : Nat) (dst : Option Tmp) {f : FuncId} {args : Array Value} {R : Ending → World → Prop} {rs : List Nat} (hi : ops[i]? = some o) (hd : o.dst = dst) (hw : Region.wanted o (yielded ops a.tmps) = true)
    (he : (execOp a.eval o).run Tryz.prog w = .ok (.enter f args) w) (hC : Calls Tryz.prog f args w R)
    (h : ∀ e X, R e X → ∃ V, e = .returned V ∧ S X ∧ wpAnyH Tryz.prog md ops Q S fuel (listed.setIfInBounds i true) (a.put dst V) X) (hs : AllReadyH Tryz.prog md ops Q S fuel listed a w rs) : AllReadyH Tryz.prog md ops Q S fuel listed a w (i :: rs) := by
  subst hd
  refine AllReadyH.cons hi (fun K hK => ?_) hs
  rw [if_pos hw]
  unfold Oper.wp
  rw [he, Oper.upon_enter]
  refine hC.mono ?_
  intro e X hR
  obtain ⟨V, rfl, hSX, hV⟩ := h e X hR
  exact hK.out _ _ hSX (fun _ => hV)
set_option linter.unusedSimpArgs false
set_option linter.unusedVariables false
set_option maxHeartbeats 1000000
section
variable {md : Region.Mode} {ops : Array Oper} {Q : Exit → Act → World → Prop} {S : World → Prop} {w : World} {fuel : Nat} {listed : Array Bool} {a : Act} {o : Oper}
/-- All that is asked of an operation that may be taken now. -/
def tk (md : Region.Mode) (ops : Array Oper) (listed : Array Bool) (i : Nat) (o : Oper) (a : Act) (b : Bool) : Bool := Region.noSelect ops && Region.free md ops listed i && (Region.ready md ops listed).contains i && (Region.wanted o (yielded ops a.tmps) == b)
theorem tk_parts {i : Nat} {b : Bool} (h : tk md ops listed i o a b = true) : Region.noSelect ops = true ∧ Region.free md ops listed i = true ∧ (Region.ready md ops listed).contains i = true ∧ Region.wanted o (yielded ops a.tmps) = b := by
  unfold tk at h
  simp only [Bool.and_eq_true, beq_iff_eq] at h
  exact ⟨h.1.1.1, h.1.1.2, h.1.2, h.2⟩
theorem gq (i : Nat) (dst : Option Tmp) (v : Value) (hi : ops[i]? = some o) (hd : o.dst = dst) (hy : ∀ X, S X → (execOp a.eval o).run Tryz.prog X = .ok (.value v) X) (hS : S w) (h : wpAnyH Tryz.prog md ops Q S fuel (listed.setIfInBounds i true) (a.put dst v) w) (hc : tk md ops listed i o a true = true := by kernel_rfl) (hQ : ∀ c a w, Q (.panic c) (a.put dst v) w → Q (.panic c) a w := by exact fun _ _ _ h => h) : wpAnyH Tryz.prog md ops Q S (fuel + 1) listed a w := by
  obtain ⟨h1, h2, h3, h4⟩ := tk_parts hc
  exact gsem i dst v hi h1 h2 h3 hQ hd h4 hy hS h
theorem gp (i : Nat) (dst : Option Tmp) (v : Value) (hi : ops[i]? = some o) (hd : o.dst = dst) (hS : S w) (h : wpAnyH Tryz.prog md ops Q S fuel (listed.setIfInBounds i true) (a.put dst v) w) (hy : ∀ X, (execOp a.eval o).run Tryz.prog X = .ok (.value v) X := by exact fun _ => by kernel_rfl) (hc : tk md ops listed i o a true = true := by kernel_rfl) (hQ : ∀ c a w, Q (.panic c) (a.put dst v) w → Q (.panic c) a w := by exact fun _ _ _ h => h) : wpAnyH Tryz.prog md ops Q S (fuel + 1) listed a w :=
  gq i dst v hi hd (fun X _ => hy X) hS h hc hQ
theorem gc (i : Nat) (dst : Option Tmp) {f : FuncId} {args : Array Value} {R : Ending → World → Prop} {rs : List Nat} (hi : ops[i]? = some o) (hd : o.dst = dst) (hC : Calls Tryz.prog f args w R)
    (h : ∀ e X, R e X → ∃ V, e = .returned V ∧ S X ∧ wpAnyH Tryz.prog md ops Q S fuel (listed.setIfInBounds i true) (a.put dst V) X) (hs : AllReadyH Tryz.prog md ops Q S fuel listed a w rs) (hw : Region.wanted o (yielded ops a.tmps) = true := by kernel_rfl) (he : (execOp a.eval o).run Tryz.prog w = .ok (.enter f args) w := by kernel_rfl) : AllReadyH Tryz.prog md ops Q S fuel listed a w (i :: rs) :=
  gcallR i dst hi hd hw he hC h hs
theorem gv (i : Nat) (dst : Option Tmp) {V : Value} {X : World} {rs : List Nat} (hi : ops[i]? = some o) (hd : o.dst = dst) (he : (execOp a.eval o).run Tryz.prog w = .ok (.value V) X) (hSX : S X)
    (h : wpAnyH Tryz.prog md ops Q S fuel (listed.setIfInBounds i true) (a.put dst V) X) (hs : AllReadyH Tryz.prog md ops Q S fuel listed a w rs) (hw : Region.wanted o (yielded ops a.tmps) = true := by kernel_rfl) : AllReadyH Tryz.prog md ops Q S fuel listed a w (i :: rs) :=
  gval i dst hi hd hw he hSX h hs
theorem gr {rs : List Nat} (h : AllReadyH Tryz.prog md ops Q S fuel listed a w rs) (hr : Region.ready md ops listed = rs := by kernel_rfl) (hne : rs ≠ [] := by simp) : wpAnyH Tryz.prog md ops Q S (fuel + 1) listed a w := wpAnyH_ready hr hne h
theorem gn : AllReadyH Tryz.prog md ops Q S fuel listed a w [] := AllReadyH.nil
end
theorem cput_app (A Y vs : List Value) (p : Nat) : cput (A ++ Y) (A.length + p) vs = A ++ cput Y p vs := by
  unfold cput
  rw [List.take_append, List.drop_append, List.take_of_length_le (by omega), List.drop_eq_nil_of_le (by omega), show A.length + p - A.length = p by omega, show A.length + p + vs.length - A.length = p + vs.length by omega]
  simp
theorem cput_length (cs vs : List Value) (p : Nat) (h : p + vs.length ≤ cs.length) : (cput cs p vs).length = cs.length := by
  unfold cput
  rw [List.length_append, List.length_append, List.length_take, List.length_drop]
  omega
/-- Something that lies in these blocks. -/
structure Ob where
  bs : List Nat
  P : World → Prop
structure Ob.Ok (o : Ob) : Prop where
  on : ∀ {X Y : World}, (∀ b ∈ o.bs, Y.heap[b]? = X.heap[b]?) → o.P X → o.P Y
  lt : ∀ {X : World}, o.P X → ∀ b ∈ o.bs, b < X.heap.size
def boxO (B : Nat) (cs : List Value) : Ob := ⟨[B], fun X => Holds X B cs ∧ 0 < cs.length⟩
def rowO (base e s : Nat) (v : Value) (n : Nat) (ys : List Value) : Ob := ⟨v.ownBlock.toList, fun X => X.ownsRow base e s v n ys⟩
theorem boxO_ok (B : Nat) (cs : List Value) : (boxO B cs).Ok :=
  ⟨fun h k => ⟨k.1.block (h B (List.mem_singleton.2 rfl)), k.2⟩, fun h b hb => by obtain rfl := List.mem_singleton.1 hb; exact h.1.lt h.2⟩
theorem rowO_ok (base e s : Nat) (v : Value) (n : Nat) (ys : List Value) : (rowO base e s v n ys).Ok :=
  ⟨fun h k => own_blk k (fun g hg => h g (by simp [rowO, hg])), fun h b hb => (World.ownsRow.lt h b (by simpa [rowO] using hb)).2⟩
/-- Of what was there in w, X has other blocks at most at E; these things lie in blocks of E, or new ones. -/
structure Sy (w X : World) (E : List Nat) (L : List Ob) : Prop where
  fr : Fr w X E
  ok : ∀ o ∈ L, o.Ok
  ho : ∀ o ∈ L, o.P X
  lo : ∀ o ∈ L, ∀ b ∈ o.bs, b ∈ E ∨ w.heap.size ≤ b
  dis : L.Pairwise (fun a b => ∀ x ∈ a.bs, x ∉ b.bs)
section
variable {w X Y : World} {E : List Nat} {L : List Ob}
theorem Sy.nil (w : World) (E : List Nat) : Sy w w E [] := ⟨Fr.refl _ _, by simp, by simp, by simp, by simp⟩
theorem Sy.get (h : Sy w X E L) (i : Nat) {o : Ob} (hi : L[i]? = some o) : o.P X := h.ho o (List.mem_of_getElem? hi)
theorem Sy.lt (h : Sy w X E L) (i : Nat) {o : Ob} (hi : L[i]? = some o) : ∀ b ∈ o.bs, b < X.heap.size := (h.ok o (List.mem_of_getElem? hi)).lt (h.get i hi)
theorem Sy.on (h : Sy w X E L) (k : Below X.heap.size X Y) : Sy w Y E L :=
  ⟨h.fr.on k, h.ok, fun o ho => (h.ok o ho).on (fun b hb => k.block b ((h.ok o ho).lt (h.ho o ho) b hb)) (h.ho o ho), h.lo, h.dis⟩
theorem Sy.drew (h : Sy w X E L) : Sy w X.drew E L := h.on ⟨rfl, rfl, rfl, Nat.le_refl _, fun _ _ => rfl⟩
theorem Sy.add (h : Sy w X E L) {o : Ob} (hok : o.Ok) (hP : o.P Y) (k : Below X.heap.size X Y) (hb : ∀ b ∈ o.bs, X.heap.size ≤ b) : Sy w Y E (L ++ [o]) := by
  have h1 := h.on k
  refine ⟨h1.fr, fun q hq => ?_, fun q hq => ?_, fun q hq => ?_, ?_⟩
  · rcases List.mem_append.1 hq with h2 | h2
    · exact h.ok q h2
    · rw [List.mem_singleton.1 h2]; exact hok
  · rcases List.mem_append.1 hq with h2 | h2
    · exact h1.ho q h2
    · rw [List.mem_singleton.1 h2]; exact hP
  · rcases List.mem_append.1 hq with h2 | h2
    · exact h.lo q h2
    · rw [List.mem_singleton.1 h2]; exact fun b hm => .inr (Nat.le_trans h.fr.size (hb b hm))
  · rw [List.pairwise_append]
    refine ⟨h.dis, by simp, fun a ha c hc x hx hxc => ?_⟩
    rw [List.mem_singleton.1 hc] at hxc
    have h2 := (h.ok a ha).lt (h.ho a ha) x hx
    have h3 := hb x hxc
    omega
/-- One thing changes, in its blocks or in new ones. -/
theorem Sy.set (h : Sy w X E L) (i : Nat) {o o' : Ob} (hi : L[i]? = some o) (hok : o'.Ok) (hP : o'.P Y) (hf : Fr X Y o.bs) (hb : ∀ b ∈ o'.bs, b ∈ o.bs ∨ X.heap.size ≤ b) : Sy w Y E (L.set i o') := by
  obtain ⟨hlt, hi'⟩ := List.getElem?_eq_some_iff.1 hi
  have hmem : o ∈ L := List.mem_of_getElem? hi
  have apart : ∀ (j : Nat) (a : Ob), L[j]? = some a → j ≠ i → ∀ x ∈ a.bs, x ∉ o.bs := by
    intro j a hj hne x hx hxo
    obtain ⟨hjl, hj'⟩ := List.getElem?_eq_some_iff.1 hj
    rcases Nat.lt_or_gt_of_ne hne with h1 | h1
    · have := List.pairwise_iff_getElem.1 h.dis j i hjl hlt h1
      rw [hj', hi'] at this
      exact this x hx hxo
    · have := List.pairwise_iff_getElem.1 h.dis i j hlt hjl h1
      rw [hj', hi'] at this
      exact this x hxo hx
  have keep : ∀ (j : Nat) (a : Ob), L[j]? = some a → j ≠ i → a.P Y := fun j a hj hne =>
    (h.ok a (List.mem_of_getElem? hj)).on (fun b hm => hf.block b ((h.ok a (List.mem_of_getElem? hj)).lt (h.ho a (List.mem_of_getElem? hj)) b hm) (apart j a hj hne b hm)) (h.ho a (List.mem_of_getElem? hj))
  have each : ∀ q ∈ L.set i o', q = o' ∨ ∃ j : Nat, L[j]? = some q ∧ j ≠ i := by
    intro q hq
    obtain ⟨j, hj⟩ := List.getElem?_of_mem hq
    by_cases e : j = i
    · subst e
      rw [List.getElem?_set_self hlt] at hj
      exact .inl (Option.some.inj hj).symm
    · rw [List.getElem?_set_ne (fun e' => e e'.symm)] at hj
      exact .inr ⟨j, hj, e⟩
  refine ⟨h.fr.trans hf (fun b hm => h.lo o hmem b hm), fun q hq => ?_, fun q hq => ?_, fun q hq => ?_, ?_⟩
  · rcases each q hq with rfl | ⟨j, hj, _⟩
    · exact hok
    · exact h.ok q (List.mem_of_getElem? hj)
  · rcases each q hq with rfl | ⟨j, hj, hne⟩
    · exact hP
    · exact keep j q hj hne
  · rcases each q hq with rfl | ⟨j, hj, hne⟩
    · intro b hm
      rcases hb b hm with h1 | h1
      · exact h.lo o hmem b h1
      · exact .inr (Nat.le_trans h.fr.size h1)
    · exact h.lo q (List.mem_of_getElem? hj)
  · have far : ∀ (j : Nat) (a : Ob), L[j]? = some a → j ≠ i → ∀ x ∈ o'.bs, x ∉ a.bs := by
      intro j a hj hne x hx hxa
      rcases hb x hx with h1 | h1
      · exact apart j a hj hne x hxa h1
      · have := (h.ok a (List.mem_of_getElem? hj)).lt (h.ho a (List.mem_of_getElem? hj)) x hxa
        omega
    rw [List.pairwise_iff_getElem]
    intro p q hp hq hpq
    rw [List.length_set] at hp hq
    rw [List.getElem_set, List.getElem_set]
    by_cases e1 : i = p
    · subst e1
      rw [if_pos rfl, if_neg (by omega)]
      exact far q _ (List.getElem?_eq_getElem hq) (by omega)
    · rw [if_neg e1]
      by_cases e2 : i = q
      · subst e2
        rw [if_pos rfl]
        exact fun x hx hx' => far p _ (List.getElem?_eq_getElem hp) (by omega) x hx' hx
      · rw [if_neg e2]
        exact List.pairwise_iff_getElem.1 h.dis p q hp hq hpq
theorem Sy.left {M : List Ob} (h : Sy w X E (L ++ M)) : Sy w X E L :=
  ⟨h.fr, fun o ho => h.ok o (List.mem_append_left _ ho), fun o ho => h.ho o (List.mem_append_left _ ho), fun o ho => h.lo o (List.mem_append_left _ ho), (List.pairwise_append.1 h.dis).1⟩
theorem Sy.box (h : Sy w X E L) (cs : List Value) (t : TypeId) (hc : 0 < cs.length) : Sy w (X.alloc (Obj.cells cs.toArray t)) E (L ++ [boxO X.heap.size cs]) :=
  h.add (boxO_ok _ _) ⟨Holds.new X cs t, hc⟩ ((Below.refl _ _).alloc (Nat.le_refl _) _) (fun b hb => by rw [List.mem_singleton.1 hb]; exact Nat.le_refl _)
theorem Sy.hold (h : Sy w X E L) (i : Nat) {b : Nat} {cs : List Value} (hi : L[i]? = some (boxO b cs)) : Holds X b cs := (h.get i hi).1
theorem Sy.put (h : Sy w X E L) (i : Nat) {b : Nat} {cs : List Value} (hi : L[i]? = some (boxO b cs)) (p : Nat) (vs : List Value) (hp : p + vs.length ≤ cs.length) : Sy w (X.setCells b p vs) E (L.set i (boxO b (cput cs p vs))) := by
  have h1 := h.get i hi
  exact h.set i hi (boxO_ok _ _) ⟨h1.1.put p vs hp, by rw [cput_length _ _ _ hp]; exact h1.2⟩ (Fr.setCells X b p vs) (fun c hc => .inl hc)
/-- A row grows, or cells of it change. -/
theorem Sy.row (h : Sy w X E L) (i : Nat) {base e s n n' : Nat} {v v' : Value} {ys ys' : List Value} (hi : L[i]? = some (rowO base e s v n ys)) (hO : Y.ownsRow base e s v' n' ys') (hg : X.grownBy Y v.ownBlock) (hF : Fresh X v v') : Sy w Y E (L.set i (rowO base e s v' n' ys')) :=
  h.set i hi (rowO_ok _ _ _ _ _ _) hO (Fr.grown hg) (fun b hb => by
    have hb' : v'.ownBlock = some b := by simpa [rowO] using hb
    rcases hF with e | e
    · exact .inl (by simp [rowO, ← e, hb'])
    · rw [e] at hb'
      exact .inr (Nat.le_of_eq (Option.some.inj hb')))
theorem Sy.apart (h : Sy w X E L) {i j : Nat} {a b : Ob} (hi : L[i]? = some a) (hj : L[j]? = some b) (hne : i ≠ j) : ∀ x ∈ a.bs, x ∉ b.bs := by
  obtain ⟨hil, hi'⟩ := List.getElem?_eq_some_iff.1 hi
  obtain ⟨hjl, hj'⟩ := List.getElem?_eq_some_iff.1 hj
  intro x hx hxb
  rcases Nat.lt_or_gt_of_ne hne with h1 | h1
  · have := List.pairwise_iff_getElem.1 h.dis i j hil hjl h1
    rw [hi', hj'] at this
    exact this x hx hxb
  · have := List.pairwise_iff_getElem.1 h.dis j i hjl hil h1
    rw [hi', hj'] at this
    exact this x hxb hx
end
set_option linter.unusedSimpArgs false
set_option linter.unusedVariables false
set_option maxHeartbeats 1000000

set_option linter.unusedSimpArgs false
set_option linter.unusedVariables false
set_option maxHeartbeats 1000000

theorem Sy.perm {w X : World} {E : List Nat} {L L' : List Ob} (h : Sy w X E L) (hp : L.Perm L') : Sy w X E L' :=
  ⟨h.fr, fun o ho => h.ok o (hp.mem_iff.2 ho), fun o ho => h.ho o (hp.mem_iff.2 ho), fun o ho => h.lo o (hp.mem_iff.2 ho), hp.pairwise h.dis (fun hab x hx hxa => hab x hxa hx)⟩
theorem Sy.front {w X : World} {E : List Nat} {L : List Ob} {o : Ob} (h : Sy w X E (L ++ [o])) : Sy w X E (o :: L) := h.perm (List.perm_append_singleton o L)
theorem Sy.back {w X : World} {E : List Nat} {L : List Ob} {o : Ob} (h : Sy w X E (o :: L)) : Sy w X E (L ++ [o]) := h.perm (List.perm_append_singleton o L).symm
section
variable {ops : Array Oper} {rest : List Oper} {Q : Exit → Act → World → Prop} {w w0 : World} {a : Act} {o : Oper} {E : List Nat} {L : List Ob}
theorem bxS {v : Value} {x : Operand} (ty : TypeId) (cs : List Value) (hw : Region.wanted o (yielded ops a.tmps) = true) (ho : o.op = .box ty x) (hx : a.eval x = v) (hv : v.cells.toList = cs) (hc : 0 < cs.length) (hL : Sy w0 w E L)
    (h : ∀ X B, B = w.heap.size → Sy w0 X E (L ++ [boxO B cs]) → Below w.heap.size w X → wpList Tryz.prog ops Q rest (a.put o.dst (.pointer (some ⟨B, 0, none⟩))) X) : wpList Tryz.prog ops Q (o :: rest) a w := by
  refine BigFrame.wpList_want hw fun K hK => ?_
  have e : v.cells = cs.toArray := by rw [← hv]
  have hP := hK _ _ (h _ _ rfl (hL.box cs ty hc) ((Below.refl _ _).alloc (Nat.le_refl _) _))
  have e2 : (Instr.box ty v).run Tryz.prog w = .ok (.pointer (some ⟨w.heap.size, 0, none⟩)) (w.alloc (Obj.cells cs.toArray ty)) := by rw [← e]; rfl
  unfold Oper.wp execOp
  simp only [ho, hx]
  simp [e2]
  exact hP
theorem alS {v : Value} (ty : TypeId) (cs : List Value) (hw : Region.wanted o (yielded ops a.tmps) = true) (ho : o.op = .alloc ty) (hz : ∀ w, (zeroValue ty).run Tryz.prog w = .ok v w) (hv : v.cells.toList = cs) (hc : 0 < cs.length) (hL : Sy w0 w E L)
    (h : ∀ X B, B = w.heap.size → Sy w0 X E (L ++ [boxO B cs]) → Below w.heap.size w X → wpList Tryz.prog ops Q rest (a.put o.dst (.pointer (some ⟨B, 0, none⟩))) X) : wpList Tryz.prog ops Q (o :: rest) a w := by
  refine BigFrame.wpList_want hw fun K hK => ?_
  have e : v.cells = cs.toArray := by rw [← hv]
  have hP := hK _ _ (h _ _ rfl (hL.box cs ty hc) ((Below.refl _ _).alloc (Nat.le_refl _) _))
  have he : (execOp a.eval o).run Tryz.prog w = .ok (.value (.pointer (some ⟨w.heap.size, 0, none⟩))) (w.alloc (Obj.cells cs.toArray ty)) := by
    unfold execOp
    simp only [ho]
    simp [go_sem, hz]
    show w.alloc (Obj.cells v.cells ty) = _
    rw [e]
  unfold Oper.wp
  rw [he]
  exact hP
theorem stS {b p : Nat} {cs vs : List Value} {v : Value} {x y : Operand} (i : Nat) (ty : TypeId) (hw : Region.wanted o (yielded ops a.tmps) = true) (ho : o.op = .store ty x y) (hx : a.eval x = .pointer (some ⟨b, p, none⟩)) (hy : a.eval y = v)
    (hv : v.cells.toList = vs) (h1 : ∀ u ∈ vs, u.oneCell' = true) (hi : (Tryz.prog.info? ty).map (·.size) = some vs.length) (hL : Sy w0 w E L) (hg : L[i]? = some (boxO b cs)) (hp : p + vs.length ≤ cs.length)
    (h : ∀ X, Sy w0 X E (L.set i (boxO b (cput cs p vs))) → Fr w X [b] → X.heap.size = w.heap.size → wpList Tryz.prog ops Q rest (a.put o.dst undef) X) : wpList Tryz.prog ops Q (o :: rest) a w := by
  refine BigFrame.wpList_want hw fun K hK => ?_
  have hP := hK _ _ (h _ (hL.put i hg p vs hp) (Fr.setCells w b p vs) (size_setCells _ _ _))
  unfold Oper.wp execOp
  simp only [ho, hx, hy, Instr.storeAt, Instr.sureAddr, Sem.run_bind, Sem.run_pure, Result.andThen_ok, run_storeVar_any w b p ty v vs hv ((hL.hold i hg).there p vs.length hp) hi h1]
  exact hP
end
theorem rwV : ∃ d, Tryz.prog.underlying 24 = some d ∧ d.isRow = true := ⟨_, Tryz.underlying24, rfl⟩
theorem szV : (Tryz.prog.info? 24).map (·.size) = some 5 := by kernel_rfl
theorem rwK : ∃ d, Tryz.prog.underlying 26 = some d ∧ d.isRow = true := ⟨_, Tryz.underlying26, rfl⟩
theorem szK : (Tryz.prog.info? 26).map (·.size) = some 2 := by kernel_rfl
theorem rwD : ∃ d, Tryz.prog.underlying 38 = some d ∧ d.isRow = true := ⟨_, Tryz.underlying38, rfl⟩
theorem szD : (Tryz.prog.info? 38).map (·.size) = some 18 := by kernel_rfl
theorem rwP_ : ∃ d, Tryz.prog.underlying 40 = some d ∧ d.isRow = true := ⟨_, Tryz.underlying40, rfl⟩
theorem szP_ : (Tryz.prog.info? 40).map (·.size) = some 32 := by kernel_rfl
theorem rwS : ∃ d, Tryz.prog.underlying 48 = some d ∧ d.isRow = true := ⟨_, Tryz.underlying48, rfl⟩
theorem szS : (Tryz.prog.info? 48).map (·.size) = some 8 := by kernel_rfl
theorem rwF : ∃ d, Tryz.prog.underlying 55 = some d ∧ d.isRow = true := ⟨_, Tryz.underlying55, rfl⟩
theorem szF : (Tryz.prog.info? 55).map (·.size) = some 7 := by kernel_rfl
theorem idPs (w : World) : (sizeOf (Tryz.prog.elem 46)).run Tryz.prog w = .ok 20 w := by kernel_rfl
theorem unPs : Tryz.prog.underlying 46 = some (.slice (Tryz.prog.elem 46)) := by kernel_rfl
theorem idVs (w : World) : (sizeOf (Tryz.prog.elem 63)).run Tryz.prog w = .ok 5 w := by kernel_rfl
theorem unVs : Tryz.prog.underlying 63 = some (.slice (Tryz.prog.elem 63)) := by kernel_rfl
theorem idOs (w : World) : (sizeOf (Tryz.prog.elem 67)).run Tryz.prog w = .ok 1 w := by kernel_rfl
theorem unOs : Tryz.prog.underlying 67 = some (.slice (Tryz.prog.elem 67)) := by kernel_rfl
theorem idEs (w : World) : (sizeOf (Tryz.prog.elem 101)).run Tryz.prog w = .ok 1 w := by kernel_rfl
theorem unEs : Tryz.prog.underlying 101 = some (.slice (Tryz.prog.elem 101)) := by kernel_rfl
theorem sz_i : (Tryz.prog.info? 3).map (·.size) = some 1 := by kernel_rfl
section
variable {ops : Array Oper} {rest : List Oper} {Q : Exit → Act → World → Prop} {w w0 : World} {a : Act} {o : Oper} {E : List Nat} {L : List Ob}
theorem gcB {md : Region.Mode} {S : World → Prop} {fuel : Nat} {listed : Array Bool} {f : FuncId} {args : Array Value} {v : Value} {rs : List Nat} (i : Nat) (dst : Option Tmp) (hi : ops[i]? = some o) (hd : o.dst = dst) (hL : Sy w0 w E L) (hC : Calls Tryz.prog f args w fun e w' => e = .returned v ∧ Below w.heap.size w w') (hT : ∀ {X}, Sy w0 X E L → S X)
    (h : ∀ X, Sy w0 X E L → wpAnyH Tryz.prog md ops Q S fuel (listed.setIfInBounds i true) (a.put dst v) X) (hs : AllReadyH Tryz.prog md ops Q S fuel listed a w rs) (hw : Region.wanted o (yielded ops a.tmps) = true := by kernel_rfl) (he : (execOp a.eval o).run Tryz.prog w = .ok (.enter f args) w := by kernel_rfl) : AllReadyH Tryz.prog md ops Q S fuel listed a w (i :: rs) :=
  gc i dst hi hd hC (fun e X hX => ⟨v, hX.1, hT (hL.on hX.2), h X (hL.on hX.2)⟩) hs hw he
theorem gcW {md : Region.Mode} {S : World → Prop} {fuel : Nat} {listed : Array Bool} {f : FuncId} {args : Array Value} {v : Value} {rs : List Nat} (i : Nat) (dst : Option Tmp) (hi : ops[i]? = some o) (hd : o.dst = dst) (hS : S w) (hC : Calls Tryz.prog f args w fun e w' => e = .returned v ∧ w' = w)
    (h : wpAnyH Tryz.prog md ops Q S fuel (listed.setIfInBounds i true) (a.put dst v) w) (hs : AllReadyH Tryz.prog md ops Q S fuel listed a w rs) (hw : Region.wanted o (yielded ops a.tmps) = true := by kernel_rfl) (he : (execOp a.eval o).run Tryz.prog w = .ok (.enter f args) w := by kernel_rfl) : AllReadyH Tryz.prog md ops Q S fuel listed a w (i :: rs) :=
  gc i dst hi hd hC (fun e X hX => ⟨v, hX.1, hX.2 ▸ hS, hX.2 ▸ h⟩) hs hw he
theorem zB {v : Value} {x : Operand} (ty : TypeId) (cs : List Value) (hw : Region.wanted o (yielded ops a.tmps) = true) (ho : o.op = .box ty x) (hx : a.eval x = v) (hv : v.cells.toList = cs) (S : Hid (Sy w0 w E L))
    (h : ∀ X B, Hid (Sy w0 X E (L ++ [boxO B cs])) → wpList Tryz.prog ops Q rest (a.put o.dst (.pointer (some ⟨B, 0, none⟩))) X) (hc : 0 < cs.length := by exact Nat.succ_pos _) : wpList Tryz.prog ops Q (o :: rest) a w :=
  bxS ty cs hw ho hx hv hc S (fun X B _ S _ => h X B S)
theorem zA (ty : TypeId) (cs : List Value) (hw : Region.wanted o (yielded ops a.tmps) = true) (ho : o.op = .alloc ty) (S : Hid (Sy w0 w E L))
    (h : ∀ X B, Hid (Sy w0 X E (L ++ [boxO B cs])) → wpList Tryz.prog ops Q rest (a.put o.dst (.pointer (some ⟨B, 0, none⟩))) X) (hz : ∀ w, (zeroValue ty).run Tryz.prog w = .ok (.agg cs.toArray) w := by intro w; kernel_rfl) (hc : 0 < cs.length := by exact Nat.succ_pos _) : wpList Tryz.prog ops Q (o :: rest) a w :=
  alS (v := .agg cs.toArray) ty cs hw ho hz (by simp [Value.cells]) hc S (fun X B _ S _ => h X B S)
theorem zS {b p : Nat} {cs : List Value} {v : Value} {x y : Operand} (vs : List Value) (i : Nat) (ty : TypeId) (hw : Region.wanted o (yielded ops a.tmps) = true) (ho : o.op = .store ty x y) (hx : a.eval x = .pointer (some ⟨b, p, none⟩)) (hy : a.eval y = v)
    (hv : v.cells.toList = vs) (h1 : ∀ u ∈ vs, u.oneCell' = true) (hi : (Tryz.prog.info? ty).map (·.size) = some vs.length) (S : Hid (Sy w0 w E L)) (hg : L[i]? = some (boxO b cs))
    (h : ∀ X, Hid (Sy w0 X E (L.set i (boxO b (cput cs p vs)))) → wpList Tryz.prog ops Q rest (a.put o.dst undef) X) (hp : p + vs.length ≤ cs.length := by simp [cput, VV.cs, KK.cs, DD.cs, zeroD, zeroV]) : wpList Tryz.prog ops Q (o :: rest) a w :=
  stS i ty hw ho hx hy hv h1 hi S hg hp (fun X S _ _ => h X S)
theorem zL {B p : Nat} {x : Operand} {cs : List Value} (vs : List Value) (t : TypeId) (n i : Nat) (hu : ∃ d, Tryz.prog.underlying t = some d ∧ d.isRow = true) (hi : (Tryz.prog.info? t).map (·.size) = some n) (hw : Region.wanted o (yielded ops a.tmps) = true) (ho : o.op = .load t x) (hx : a.eval x = .pointer (some ⟨B, p, none⟩)) (S : Hid (Sy w0 w E L)) (hg : L[i]? = some (boxO B cs)) (hv : (cs.drop p).take n = vs) (hn : vs.length = n) (h : wpList Tryz.prog ops Q rest (a.put o.dst (.agg vs.toArray)) w) : wpList Tryz.prog ops Q (o :: rest) a w :=
  rd hw (ex_loadN (vs := vs) t n hu hi ho hx (Sy.hold S i hg) hv hn) h
theorem z1 {B p : Nat} {x : Operand} {cs : List Value} {v : Value} (t : TypeId) (hna : ∀ w, (isAgg t).run Tryz.prog w = .ok false w) (i : Nat) (hw : Region.wanted o (yielded ops a.tmps) = true) (ho : o.op = .load t x) (hx : a.eval x = .pointer (some ⟨B, p, none⟩)) (S : Hid (Sy w0 w E L)) (hg : L[i]? = some (boxO B cs)) (hv : cs[p]? = some v) (h : wpList Tryz.prog ops Q rest (a.put o.dst v) w) : wpList Tryz.prog ops Q (o :: rest) a w :=
  rd hw (ex_load1 t hna ho hx (Sy.hold S i hg) hv) h
end
