import Derived.Test.YtcflglloopgieaaKh
namespace Go.Proofs.Ytcflglloopgieaa
open Go Go.Proofs Go.Maps Go.RowKit FM
set_option linter.unusedSimpArgs false
set_option linter.unusedVariables false
set_option maxHeartbeats 1000000
theorem rwW : ∃ d, Try.prog.underlying 74 = some d ∧ d.isRow = true := ⟨_, Try.underlying74, rfl⟩
theorem szW : (Try.prog.info? 74).map (·.size) = some 22 := by kernel_rfl
theorem szWs : (Try.prog.info? 61).map (·.size) = some 1 := by kernel_rfl
theorem szXs : (Try.prog.info? 50).map (·.size) = some 1 := by kernel_rfl
theorem idWs (w : World) : (sizeOf (Try.prog.elem 61)).run Try.prog w = .ok 22 w := by kernel_rfl
theorem unWs : Try.prog.underlying 61 = some (.slice (Try.prog.elem 61)) := by kernel_rfl
theorem idXs (w : World) : (sizeOf (Try.prog.elem 50)).run Try.prog w = .ok 1 w := by kernel_rfl
theorem unXs : Try.prog.underlying 50 = some (.slice (Try.prog.elem 50)) := by kernel_rfl
def RW.cs (r : RW) : List Value := r.p.cs ++ [.int .i64 (r.nx : Nat), .bool r.g]
def flatR (l : List RW) : List Value := l.flatMap RW.cs
def zeroW : RW := ⟨zeroP, 0, false⟩
def RW.agg (r : RW) : Value := .agg r.cs.toArray
theorem infW : (Try.prog.info? 74).map (fun i => (i.zero, i.size, i.bytes)) = some (some zeroW.agg, 22, 208) := by kernel_rfl
theorem infXp : (Try.prog.info? 60).map (fun i => (i.zero, i.size, i.bytes)) = some (some (.pointer none), 1, 8) := by kernel_rfl
theorem wcs_len (r : RW) : r.cs.length = 22 := rfl
theorem wcs_one (r : RW) : ∀ u ∈ r.cs, u.oneCell' = true := by simp [RW.cs, PR.cs, KK.cs, DD.cs, Value.oneCell']
theorem flatR_len (l : List RW) : (flatR l).length = l.length * 22 := flat_len RW.cs 22 wcs_len l
theorem flatR_mid (a b : List RW) (x : RW) : flatR (a ++ x :: b) = flatR a ++ (x.cs ++ flatR b) := by
  unfold flatR
  rw [List.flatMap_append, List.flatMap_cons]
theorem cput_nil (cs : List Value) (p : Nat) : cput cs p [] = cs := by simp [cput]
theorem setCells_obj {e : TypeId} {fr : Nat × Nat} (g : Nat) : ∀ (vs : List Value) (p : Nat) (W : World) (cur : Array Value), W.heap[g]? = some (.cells cur e fr) → p + vs.length ≤ cur.size → ∃ cur' : Array Value, (W.setCells g p vs).heap[g]? = some (.cells cur' e fr) ∧ cur'.toList = cput cur.toList p vs
  | [], p, W, cur, h, _ => ⟨cur, h, (cput_nil _ _).symm⟩
  | v :: vs, p, W, cur, h, hp => by
    simp only [List.length_cons] at hp
    have h1 : (W.setCell ⟨g, p, none⟩ v).heap[g]? = some (.cells (cur.setIfInBounds p v) e fr) := by
      obtain ⟨hlt, hk⟩ := Array.getElem?_eq_some_iff.1 h
      show (W.heap.modify g _)[g]? = _
      rw [Array.getElem?_eq_getElem (by rw [Array.size_modify]; exact hlt), Array.getElem_modify_self, hk]
      rfl
    obtain ⟨cur', h2, h3⟩ := setCells_obj g vs (p + 1) _ _ h1 (by simp; omega)
    refine ⟨cur', h2, ?_⟩
    rw [h3]
    have hpl : p < cur.toList.length := by simp; omega
    unfold cput
    have e1 : (cur.setIfInBounds p v).toList = cur.toList.set p v := by simp
    rw [e1, List.take_set, List.drop_set_of_lt (by omega), List.take_succ_eq_append_getElem hpl]
    simp only [List.length_cons]
    rw [List.set_append_right _ _ (by simp; omega), show p + 1 + vs.length = p + (vs.length + 1) by omega]
    have e2 : p - (cur.toList.take p).length = 0 := by simp; omega
    rw [e2]
    simp
theorem cput_app (A Y vs : List Value) (p : Nat) : cput (A ++ Y) (A.length + p) vs = A ++ cput Y p vs := by
  unfold cput
  rw [List.take_append, List.drop_append, List.take_of_length_le (by omega), List.drop_eq_nil_of_le (by omega), show A.length + p - A.length = p by omega, show A.length + p + vs.length - A.length = p + vs.length by omega]
  simp
theorem cput_left (A B vs : List Value) (p : Nat) (h : p + vs.length ≤ A.length) : cput (A ++ B) p vs = cput A p vs ++ B := by
  unfold cput
  rw [List.take_append_of_le_length (by omega), List.drop_append_of_le_length h]
  simp
theorem cput_length (cs vs : List Value) (p : Nat) (h : p + vs.length ≤ cs.length) : (cput cs p vs).length = cs.length := by
  unfold cput
  rw [List.length_append, List.length_append, List.length_take, List.length_drop]
  omega
theorem own_set {w : World} {base e s n g c p : Nat} {xs vs : List Value} (h : w.ownsRow base e s (.slice (some ⟨g, 0, none⟩) n c) n xs) (hp : p + vs.length ≤ xs.length) : (w.setCells g p vs).ownsRow base e s (.slice (some ⟨g, 0, none⟩) n c) n (cput xs p vs) := by
  obtain ⟨h1, h2⟩ := h
  rcases h2 with ⟨h2, -⟩ | ⟨g', cap, cur, he, h3, h4, h5, h6, h7, h8⟩
  · cases h2
  · cases he
    have hle : n * s ≤ cur.size := by rw [h7]; exact Nat.mul_le_mul_right _ h5
    obtain ⟨cur', h9, h10⟩ := setCells_obj g vs p w cur h4 (by omega)
    have hd : cur.toList = xs ++ cur.toList.drop (n * s) := by rw [← h8, List.take_append_drop]
    rw [hd, cput_left _ _ _ _ hp] at h10
    have hcl := cput_length xs vs p hp
    have hs' : cur'.size = cur.size := by
      have e1 : cur'.toList.length = cur.toList.length := by rw [h10, List.length_append, hcl, ← List.length_append, ← hd]
      simpa using e1
    refine ⟨by rw [hcl, h1], .inr ⟨g, c, cur', rfl, h3, h9, h5, h6, by rw [hs']; exact h7, ?_⟩⟩
    rw [h10, List.take_append_of_le_length (by omega), List.take_of_length_le (by omega)]
/-- Cells of one row's element are others. -/
theorem flatR_put {rs : List RW} {i : Nat} {r r' : RW} {p : Nat} {vs : List Value} (hr : rs[i]? = some r) (hp : p + vs.length ≤ 22) (he : cput r.cs p vs = r'.cs) : cput (flatR rs) (0 + i * 22 + p) vs = flatR (rs.set i r') := by
  have hi := (List.getElem?_eq_some_iff.1 hr).1
  rw [set_split hi, flatR_mid]
  conv => lhs; rw [split_at hr, flatR_mid]
  have e : (flatR (rs.take i)).length = i * 22 := by rw [flatR_len, List.length_take, Nat.min_eq_left (by omega)]
  rw [Nat.zero_add, ← e, cput_app, cput_left _ _ _ _ (by rw [wcs_len]; exact hp), he]
theorem own_at {W : World} {base n : Nat} {v : Value} {l : List RW} (h : W.ownsRow base 74 22 v n (flatR l)) (hn : l.length = n) {j : Nat} {r : RW} (hj : l[j]? = some r) : ∃ g c, v = .slice (some ⟨g, 0, none⟩) n c ∧ g < W.heap.size ∧ W.rangeAt g (0 + j * 22) r.cs ∧ W.there g (0 + j * 22) 22 := by
  obtain ⟨hl, rfl⟩ := List.getElem?_eq_some_iff.1 hj
  obtain ⟨g, c, h1, h2, h3, h4⟩ := own_row wcs_len h hn j hl
  refine ⟨g, c, h1, h3, h4, fun t ht => ?_⟩
  rcases h.2 with ⟨e, -⟩ | ⟨g', cap, cur, e, -, h6, h7, h8, h9, h10⟩
  · rw [h1] at e
    cases e
  · rw [h1] at e
    cases e
    refine ⟨?_, by simp [World.frozen?, h6]⟩
    have hr := h4 t (l[j].cs[t]'(by rw [wcs_len]; exact ht)) (List.getElem?_eq_getElem _)
    rw [hr]
    rfl
/-! Things side by side. -/
/-- Something that lies in these blocks. -/
structure Ob where
  bs : List Nat
  P : World → Prop
structure Ob.Ok (o : Ob) : Prop where
  on : ∀ {X Y : World}, (∀ b ∈ o.bs, Y.heap[b]? = X.heap[b]?) → o.P X → o.P Y
  lt : ∀ {X : World}, o.P X → ∀ b ∈ o.bs, b < X.heap.size
def boxO (B : Nat) (cs : List Value) : Ob := ⟨[B], fun X => Holds X B cs ∧ 0 < cs.length⟩
def mapO (b n sz : Nat) (F : KK → Option Nat) : Ob := ⟨[b], fun X => MapI X b n sz F⟩
def rowO (base e s : Nat) (v : Value) (n : Nat) (ys : List Value) : Ob := ⟨v.ownBlock.toList, fun X => X.ownsRow base e s v n ys⟩
theorem boxO_ok (B : Nat) (cs : List Value) : (boxO B cs).Ok :=
  ⟨fun h k => ⟨k.1.block (h B (List.mem_singleton.2 rfl)), k.2⟩, fun h b hb => by obtain rfl := List.mem_singleton.1 hb; exact h.1.lt h.2⟩
theorem mapO_ok (b n sz : Nat) (F : KK → Option Nat) : (mapO b n sz F).Ok :=
  ⟨fun h k => MapI.block k (h b (List.mem_singleton.2 rfl)), fun h c hc => by obtain rfl := List.mem_singleton.1 hc; exact MapI.lt h⟩
theorem rowO_ok (base e s : Nat) (v : Value) (n : Nat) (ys : List Value) : (rowO base e s v n ys).Ok :=
  ⟨fun h k => own_blk k (fun g hg => h g (by simp [rowO, hg])), fun h b hb => (World.ownsRow.lt h b (by simpa [rowO] using hb)).2⟩
/-- Of what was there in w, X has other blocks at most at E; these things lie in blocks of E, or new ones. -/
structure Sy (w X : World) (E : List Nat) (L : List Ob) : Prop where
  fr : Fr w X E
  ok : ∀ o ∈ L, o.Ok
  ho : ∀ o ∈ L, o.P X
  lo : ∀ o ∈ L, ∀ b ∈ o.bs, b ∈ E ∨ w.heap.size ≤ b
  dis : L.Pairwise (fun a b => ∀ x ∈ a.bs, x ∉ b.bs)
section
variable {w X Y : World} {E : List Nat} {L : List Ob}
theorem Sy.nil (w : World) (E : List Nat) : Sy w w E [] := ⟨Fr.refl _ _, by simp, by simp, by simp, by simp⟩
theorem Sy.get (h : Sy w X E L) (i : Nat) {o : Ob} (hi : L[i]? = some o) : o.P X := h.ho o (List.mem_of_getElem? hi)
theorem Sy.lt (h : Sy w X E L) (i : Nat) {o : Ob} (hi : L[i]? = some o) : ∀ b ∈ o.bs, b < X.heap.size := (h.ok o (List.mem_of_getElem? hi)).lt (h.get i hi)
theorem Sy.on (h : Sy w X E L) (k : Below X.heap.size X Y) : Sy w Y E L :=
  ⟨h.fr.on k, h.ok, fun o ho => (h.ok o ho).on (fun b hb => k.block b ((h.ok o ho).lt (h.ho o ho) b hb)) (h.ho o ho), h.lo, h.dis⟩
theorem Sy.drew (h : Sy w X E L) : Sy w X.drew E L := h.on ⟨rfl, rfl, rfl, Nat.le_refl _, fun _ _ => rfl⟩
theorem Sy.add (h : Sy w X E L) {o : Ob} (hok : o.Ok) (hP : o.P Y) (k : Below X.heap.size X Y) (hb : ∀ b ∈ o.bs, X.heap.size ≤ b) : Sy w Y E (L ++ [o]) := by
  have h1 := h.on k
  refine ⟨h1.fr, fun q hq => ?_, fun q hq => ?_, fun q hq => ?_, ?_⟩
  · rcases List.mem_append.1 hq with h2 | h2
    · exact h.ok q h2
    · rw [List.mem_singleton.1 h2]; exact hok
  · rcases List.mem_append.1 hq with h2 | h2
    · exact h1.ho q h2
    · rw [List.mem_singleton.1 h2]; exact hP
  · rcases List.mem_append.1 hq with h2 | h2
    · exact h.lo q h2
    · rw [List.mem_singleton.1 h2]; exact fun b hm => .inr (Nat.le_trans h.fr.size (hb b hm))
  · rw [List.pairwise_append]
    refine ⟨h.dis, by simp, fun a ha c hc x hx hxc => ?_⟩
    rw [List.mem_singleton.1 hc] at hxc
    have h2 := (h.ok a ha).lt (h.ho a ha) x hx
    have h3 := hb x hxc
    omega
/-- One thing changes, in its blocks or in new ones. -/
theorem Sy.set (h : Sy w X E L) (i : Nat) {o o' : Ob} (hi : L[i]? = some o) (hok : o'.Ok) (hP : o'.P Y) (hf : Fr X Y o.bs) (hb : ∀ b ∈ o'.bs, b ∈ o.bs ∨ X.heap.size ≤ b) : Sy w Y E (L.set i o') := by
  obtain ⟨hlt, hi'⟩ := List.getElem?_eq_some_iff.1 hi
  have hmem : o ∈ L := List.mem_of_getElem? hi
  have apart : ∀ (j : Nat) (a : Ob), L[j]? = some a → j ≠ i → ∀ x ∈ a.bs, x ∉ o.bs := by
    intro j a hj hne x hx hxo
    obtain ⟨hjl, hj'⟩ := List.getElem?_eq_some_iff.1 hj
    rcases Nat.lt_or_gt_of_ne hne with h1 | h1
    · have := List.pairwise_iff_getElem.1 h.dis j i hjl hlt h1
      rw [hj', hi'] at this
      exact this x hx hxo
    · have := List.pairwise_iff_getElem.1 h.dis i j hlt hjl h1
      rw [hj', hi'] at this
      exact this x hxo hx
  have keep : ∀ (j : Nat) (a : Ob), L[j]? = some a → j ≠ i → a.P Y := fun j a hj hne =>
    (h.ok a (List.mem_of_getElem? hj)).on (fun b hm => hf.block b ((h.ok a (List.mem_of_getElem? hj)).lt (h.ho a (List.mem_of_getElem? hj)) b hm) (apart j a hj hne b hm)) (h.ho a (List.mem_of_getElem? hj))
  have each : ∀ q ∈ L.set i o', q = o' ∨ ∃ j : Nat, L[j]? = some q ∧ j ≠ i := by
    intro q hq
    obtain ⟨j, hj⟩ := List.getElem?_of_mem hq
    by_cases e : j = i
    · subst e
      rw [List.getElem?_set_self hlt] at hj
      exact .inl (Option.some.inj hj).symm
    · rw [List.getElem?_set_ne (fun e' => e e'.symm)] at hj
      exact .inr ⟨j, hj, e⟩
  refine ⟨h.fr.trans hf (fun b hm => h.lo o hmem b hm), fun q hq => ?_, fun q hq => ?_, fun q hq => ?_, ?_⟩
  · rcases each q hq with rfl | ⟨j, hj, _⟩
    · exact hok
    · exact h.ok q (List.mem_of_getElem? hj)
  · rcases each q hq with rfl | ⟨j, hj, hne⟩
    · exact hP
    · exact keep j q hj hne
  · rcases each q hq with rfl | ⟨j, hj, hne⟩
    · intro b hm
      rcases hb b hm with h1 | h1
      · exact h.lo o hmem b h1
      · exact .inr (Nat.le_trans h.fr.size h1)
    · exact h.lo q (List.mem_of_getElem? hj)
  · have far : ∀ (j : Nat) (a : Ob), L[j]? = some a → j ≠ i → ∀ x ∈ o'.bs, x ∉ a.bs := by
      intro j a hj hne x hx hxa
      rcases hb x hx with h1 | h1
      · exact apart j a hj hne x hxa h1
      · have := (h.ok a (List.mem_of_getElem? hj)).lt (h.ho a (List.mem_of_getElem? hj)) x hxa
        omega
    rw [List.pairwise_iff_getElem]
    intro p q hp hq hpq
    rw [List.length_set] at hp hq
    rw [List.getElem_set, List.getElem_set]
    by_cases e1 : i = p
    · subst e1
      rw [if_pos rfl, if_neg (by omega)]
      exact far q _ (List.getElem?_eq_getElem hq) (by omega)
    · rw [if_neg e1]
      by_cases e2 : i = q
      · subst e2
        rw [if_pos rfl]
        exact fun x hx hx' => far p _ (List.getElem?_eq_getElem hp) (by omega) x hx' hx
      · rw [if_neg e2]
        exact List.pairwise_iff_getElem.1 h.dis p q hp hq hpq
theorem Sy.left {M : List Ob} (h : Sy w X E (L ++ M)) : Sy w X E L :=
  ⟨h.fr, fun o ho => h.ok o (List.mem_append_left _ ho), fun o ho => h.ho o (List.mem_append_left _ ho), fun o ho => h.lo o (List.mem_append_left _ ho), (List.pairwise_append.1 h.dis).1⟩
theorem Sy.box (h : Sy w X E L) (cs : List Value) (t : TypeId) (hc : 0 < cs.length) : Sy w (X.alloc (Obj.cells cs.toArray t)) E (L ++ [boxO X.heap.size cs]) :=
  h.add (boxO_ok _ _) ⟨Holds.new X cs t, hc⟩ ((Below.refl _ _).alloc (Nat.le_refl _) _) (fun b hb => by rw [List.mem_singleton.1 hb]; exact Nat.le_refl _)
theorem Sy.hold (h : Sy w X E L) (i : Nat) {b : Nat} {cs : List Value} (hi : L[i]? = some (boxO b cs)) : Holds X b cs := (h.get i hi).1
theorem Sy.put (h : Sy w X E L) (i : Nat) {b : Nat} {cs : List Value} (hi : L[i]? = some (boxO b cs)) (p : Nat) (vs : List Value) (hp : p + vs.length ≤ cs.length) : Sy w (X.setCells b p vs) E (L.set i (boxO b (cput cs p vs))) := by
  have h1 := h.get i hi
  exact h.set i hi (boxO_ok _ _) ⟨h1.1.put p vs hp, by rw [cput_length _ _ _ hp]; exact h1.2⟩ (Fr.setCells X b p vs) (fun c hc => .inl hc)
/-- A row grows, or cells of it change. -/
theorem Sy.row (h : Sy w X E L) (i : Nat) {base e s n n' : Nat} {v v' : Value} {ys ys' : List Value} (hi : L[i]? = some (rowO base e s v n ys)) (hO : Y.ownsRow base e s v' n' ys') (hg : X.grownBy Y v.ownBlock) (hF : Fresh X v v') : Sy w Y E (L.set i (rowO base e s v' n' ys')) :=
  h.set i hi (rowO_ok _ _ _ _ _ _) hO (Fr.grown hg) (fun b hb => by
    have hb' : v'.ownBlock = some b := by simpa [rowO] using hb
    rcases hF with e | e
    · exact .inl (by simp [rowO, ← e, hb'])
    · rw [e] at hb'
      exact .inr (Nat.le_of_eq (Option.some.inj hb')))
theorem Sy.cell (h : Sy w X E L) (i : Nat) {base e s n g c p : Nat} {ys vs : List Value} (hi : L[i]? = some (rowO base e s (.slice (some ⟨g, 0, none⟩) n c) n ys)) (hp : p + vs.length ≤ ys.length) : Sy w (X.setCells g p vs) E (L.set i (rowO base e s (.slice (some ⟨g, 0, none⟩) n c) n (cput ys p vs))) :=
  h.set i hi (rowO_ok _ _ _ _ _ _) (own_set (h.get i hi) hp) (Fr.setCells X g p vs) (fun b hb => .inl hb)
theorem Sy.mput (h : Sy w X E L) (i : Nat) {b n sz n' sz' : Nat} {F G : KK → Option Nat} (hi : L[i]? = some (mapO b n sz F)) (hM : MapI Y b n' sz' G) (hf : Fr X Y [b]) : Sy w Y E (L.set i (mapO b n' sz' G)) :=
  h.set i hi (mapO_ok _ _ _ _) hM hf (fun c hc => .inl hc)
end
section
variable {ops : Array Oper} {rest : List Oper} {Q : Exit → Act → World → Prop} {w w0 : World} {a : Act} {o : Oper} {E : List Nat} {L : List Ob}
theorem bxS {v : Value} {x : Operand} (ty : TypeId) (cs : List Value) (hw : Region.wanted o (yielded ops a.tmps) = true) (ho : o.op = .box ty x) (hx : a.eval x = v) (hv : v.cells.toList = cs) (hc : 0 < cs.length) (hL : Sy w0 w E L)
    (h : ∀ X B, B = w.heap.size → Sy w0 X E (L ++ [boxO B cs]) → Below w.heap.size w X → wpList Try.prog ops Q rest (a.put o.dst (.pointer (some ⟨B, 0, none⟩))) X) : wpList Try.prog ops Q (o :: rest) a w := by
  refine BigFrame.wpList_want hw fun K hK => ?_
  have e : v.cells = cs.toArray := by rw [← hv]
  have hP := hK _ _ (h _ _ rfl (hL.box cs ty hc) ((Below.refl _ _).alloc (Nat.le_refl _) _))
  have e2 : (Instr.box ty v).run Try.prog w = .ok (.pointer (some ⟨w.heap.size, 0, none⟩)) (w.alloc (Obj.cells cs.toArray ty)) := by rw [← e]; rfl
  unfold Oper.wp execOp
  simp only [ho, hx]
  simp [e2]
  exact hP
theorem alS {v : Value} (ty : TypeId) (cs : List Value) (hw : Region.wanted o (yielded ops a.tmps) = true) (ho : o.op = .alloc ty) (hz : ∀ w, (zeroValue ty).run Try.prog w = .ok v w) (hv : v.cells.toList = cs) (hc : 0 < cs.length) (hL : Sy w0 w E L)
    (h : ∀ X B, B = w.heap.size → Sy w0 X E (L ++ [boxO B cs]) → Below w.heap.size w X → wpList Try.prog ops Q rest (a.put o.dst (.pointer (some ⟨B, 0, none⟩))) X) : wpList Try.prog ops Q (o :: rest) a w := by
  refine BigFrame.wpList_want hw fun K hK => ?_
  have e : v.cells = cs.toArray := by rw [← hv]
  have hP := hK _ _ (h _ _ rfl (hL.box cs ty hc) ((Below.refl _ _).alloc (Nat.le_refl _) _))
  have he : (execOp a.eval o).run Try.prog w = .ok (.value (.pointer (some ⟨w.heap.size, 0, none⟩))) (w.alloc (Obj.cells cs.toArray ty)) := by
    unfold execOp
    simp only [ho]
    simp [go_sem, hz]
    show w.alloc (Obj.cells v.cells ty) = _
    rw [e]
  unfold Oper.wp
  rw [he]
  exact hP
theorem stS {b p : Nat} {cs vs : List Value} {v : Value} {x y : Operand} (i : Nat) (ty : TypeId) (hw : Region.wanted o (yielded ops a.tmps) = true) (ho : o.op = .store ty x y) (hx : a.eval x = .pointer (some ⟨b, p, none⟩)) (hy : a.eval y = v)
    (hv : v.cells.toList = vs) (h1 : ∀ u ∈ vs, u.oneCell' = true) (hi : (Try.prog.info? ty).map (·.size) = some vs.length) (hL : Sy w0 w E L) (hg : L[i]? = some (boxO b cs)) (hp : p + vs.length ≤ cs.length)
    (h : ∀ X, Sy w0 X E (L.set i (boxO b (cput cs p vs))) → Fr w X [b] → X.heap.size = w.heap.size → wpList Try.prog ops Q rest (a.put o.dst undef) X) : wpList Try.prog ops Q (o :: rest) a w := by
  refine BigFrame.wpList_want hw fun K hK => ?_
  have hP := hK _ _ (h _ (hL.put i hg p vs hp) (Fr.setCells w b p vs) (size_setCells _ _ _))
  unfold Oper.wp execOp
  simp only [ho, hx, hy, Instr.storeAt, Instr.sureAddr, Sem.run_bind, Sem.run_pure, Result.andThen_ok, run_storeVar_any w b p ty v vs hv ((hL.hold i hg).there p vs.length hp) hi h1]
  exact hP
/-- A store into a row's element. -/
theorem stR {base g c n j p q : Nat} {rs : List RW} {r r' : RW} {vs : List Value} {v : Value} {x y : Operand} (i : Nat) (ty : TypeId) (hw : Region.wanted o (yielded ops a.tmps) = true) (ho : o.op = .store ty x y) (hx : a.eval x = .pointer (some ⟨g, q, none⟩)) (hy : a.eval y = v)
    (hv : v.cells.toList = vs) (h1 : ∀ u ∈ vs, u.oneCell' = true) (hi : (Try.prog.info? ty).map (·.size) = some vs.length) (hL : Sy w0 w E L) (hg : L[i]? = some (rowO base 74 22 (.slice (some ⟨g, 0, none⟩) n c) n (flatR rs))) (hn : rs.length = n) (hr : rs[j]? = some r) (hp : p + vs.length ≤ 22) (he : cput r.cs p vs = r'.cs) (hq : q = 0 + j * 22 + p)
    (h : ∀ X, Sy w0 X E (L.set i (rowO base 74 22 (.slice (some ⟨g, 0, none⟩) n c) n (flatR (rs.set j r')))) → Fr w X [g] → X.heap.size = w.heap.size → wpList Try.prog ops Q rest (a.put o.dst undef) X) : wpList Try.prog ops Q (o :: rest) a w := by
  subst hq
  refine BigFrame.wpList_want hw fun K hK => ?_
  have hj := (List.getElem?_eq_some_iff.1 hr).1
  have hlen : 0 + j * 22 + p + vs.length ≤ (flatR rs).length := by
    rw [flatR_len]
    have : (j + 1) * 22 ≤ rs.length * 22 := Nat.mul_le_mul_right 22 hj
    omega
  have hC := hL.cell i hg (p := 0 + j * 22 + p) (vs := vs) hlen
  rw [flatR_put hr hp he] at hC
  have hP := hK _ _ (h _ hC (Fr.setCells w g _ vs) (size_setCells _ _ _))
  obtain ⟨g', c', e, _, _, ht⟩ := own_at (hL.get i hg) hn hr
  cases e
  have ht' : w.there g (0 + j * 22 + p) vs.length := fun t hlt => by
    have := ht (p + t) (by omega)
    rwa [← Nat.add_assoc] at this
  unfold Oper.wp execOp
  simp only [ho, hx, hy, Instr.storeAt, Instr.sureAddr, Sem.run_bind, Sem.run_pure, Result.andThen_ok, run_storeVar_any w g (0 + j * 22 + p) ty v vs hv ht' hi h1]
  exact hP
end
/-! Drafts. -/
structure RX where
  v : Value
  rs : List RW
  mb : Nat
  n : Nat
  sz : Nat
  F : KK → Option Nat
structure DR where
  s : SH
  A : Option Addr
  cap : Nat
  rx : Option RX
def DR.tl (d : DR) : List Value := match d.rx with
  | none => [.slice none 0 0, .map none]
  | some x => [x.v, .map (some x.mb)]
def DR.cs (d : DR) : List Value := d.s.cs d.A d.cap ++ d.tl
def DR.bs (B : Nat) (d : DR) : List Nat := B :: (match d.rx with
  | none => []
  | some x => x.v.ownBlock.toList ++ [x.mb])
def DR.abs (d : DR) : SH := { d.s with ps := match d.rx with
  | none => d.s.ps
  | some x => lvs x.rs }
/-- A shape that can be copied. -/
def GS (s : SH) : Prop := SV s.p ∧ s.p.x < 2 ^ 64 ∧ s.ps.length ≤ 400 ∧ ∀ p ∈ s.ps, SP p
/-- Its rows, and its map. -/
structure RXI (w X : World) (B k : Nat) (x : RX) : Prop where
  own : X.ownsRow w.heap.size 74 22 x.v x.rs.length (flatR x.rs)
  map : MapI X x.mb x.n x.sz x.F
  ri : RIi x.rs x.F 0
  gr : ∀ r ∈ x.rs, OkP r.p ∧ SP r.p
  ml : w.heap.size ≤ x.mb
  a1 : x.v.ownBlock ≠ some B
  a2 : x.v.ownBlock ≠ some x.mb
  a3 : x.mb ≠ B
  len : x.rs.length ≤ k
  nn : x.n ≤ k
/-- The draft in block B, over a moment that lies in w. -/
structure DI (w X : World) (B k : Nat) (d : DR) : Prop where
  hold : Holds X B d.cs
  rd : ReadsP w d.A d.s.ps
  gd : GS d.s
  lo : w.heap.size ≤ B
  rows : ∀ x, d.rx = some x → RXI w X B k x
theorem RXI.mono {w X : World} {B k k' : Nat} {x : RX} (h : RXI w X B k x) (hk : k ≤ k') : RXI w X B k' x := ⟨h.own, h.map, h.ri, h.gr, h.ml, h.a1, h.a2, h.a3, Nat.le_trans h.len hk, Nat.le_trans h.nn hk⟩
theorem DI.mono {w X : World} {B k k' : Nat} {d : DR} (h : DI w X B k d) (hk : k ≤ k') : DI w X B k' d := ⟨h.hold, h.rd, h.gd, h.lo, fun x hx => (h.rows x hx).mono hk⟩
theorem drcs_pos (d : DR) : 0 < d.cs.length := by simp [DR.cs, SH.cs]
def drO (w : World) (B k : Nat) (d : DR) : Ob := ⟨d.bs B, fun X => DI w X B k d⟩
theorem drO_ok (w : World) (B k : Nat) (d : DR) : (drO w B k d).Ok := by
  refine ⟨fun {X Y} h q => ⟨q.hold.block (h B (by simp [drO, DR.bs])), q.rd, q.gd, q.lo, fun x hx => ?_⟩, fun {X} h b hb => ?_⟩
  · have r := q.rows x hx
    refine ⟨own_blk r.own (fun g hg => h g (by simp [drO, DR.bs, hx, hg])), r.map.block (h x.mb (by simp [drO, DR.bs, hx])), r.ri, r.gr, r.ml, r.a1, r.a2, r.a3, r.len, r.nn⟩
  · have hb' : b ∈ d.bs B := hb
    unfold DR.bs at hb'
    rcases List.mem_cons.1 hb' with rfl | hb'
    · exact h.hold.lt (drcs_pos d)
    · cases hx : d.rx with
      | none => simp [hx] at hb'
      | some x =>
        have r := h.rows x hx
        simp only [hx] at hb'
        rcases List.mem_append.1 hb' with hb' | hb'
        · exact (World.ownsRow.lt r.own b (by simpa using hb')).2
        · rw [List.mem_singleton.1 hb']
          exact r.map.lt
/-- What a step of a draft leaves. -/
structure DP (w X : World) (B k : Nat) (d d' : DR) (Y : World) : Prop where
  di : DI w Y B k d'
  fr : Fr X Y (d.bs B)
  new : ∀ b ∈ d'.bs B, b ∈ d.bs B ∨ X.heap.size ≤ b
theorem DP.trans {w X Y Z : World} {B k k' : Nat} {d d' d'' : DR} (h : DP w X B k d d' Y) (q : DP w Y B k' d' d'' Z) : DP w X B k' d d'' Z :=
  ⟨q.di, h.fr.trans q.fr h.new, fun b hb => by
    rcases q.new b hb with h1 | h1
    · exact h.new b h1
    · exact .inr (Nat.le_trans h.fr.size h1)⟩
theorem DI.base {w X : World} {B k : Nat} {d : DR} (h : DI w X B k d) : ∀ b ∈ d.bs B, w.heap.size ≤ b := by
  intro b hb
  unfold DR.bs at hb
  rcases List.mem_cons.1 hb with rfl | hb
  · exact h.lo
  · cases hx : d.rx with
    | none => simp [hx] at hb
    | some x =>
      have r := h.rows x hx
      simp only [hx] at hb
      rcases List.mem_append.1 hb with hb | hb
      · exact (World.ownsRow.lt r.own b (by simpa using hb)).1
      · rw [List.mem_singleton.1 hb]
        exact r.ml
theorem DI.sy0 {w X : World} {B k : Nat} {d : DR} (h : DI w X B k d) (hx : d.rx = none) : Sy X X (d.bs B) [boxO B d.cs] :=
  ⟨Fr.refl _ _, by simp [boxO_ok], by simpa [boxO] using ⟨h.hold, drcs_pos d⟩, by simp [boxO, DR.bs, hx], by simp⟩
theorem DI.sy1 {w X : World} {B k : Nat} {d : DR} {x : RX} (h : DI w X B k d) (hx : d.rx = some x) : Sy X X (d.bs B) [boxO B d.cs, rowO w.heap.size 74 22 x.v x.rs.length (flatR x.rs), mapO x.mb x.n x.sz x.F] := by
  have r := h.rows x hx
  refine ⟨Fr.refl _ _, ?_, ?_, ?_, ?_⟩
  · intro o ho
    rcases List.mem_cons.1 ho with rfl | ho
    · exact boxO_ok _ _
    · rcases List.mem_cons.1 ho with rfl | ho
      · exact rowO_ok _ _ _ _ _ _
      · rw [List.mem_singleton.1 ho]
        exact mapO_ok _ _ _ _
  · intro o ho
    rcases List.mem_cons.1 ho with rfl | ho
    · exact ⟨h.hold, drcs_pos d⟩
    · rcases List.mem_cons.1 ho with rfl | ho
      · exact r.own
      · rw [List.mem_singleton.1 ho]
        exact r.map
  · intro o ho b hb
    refine .inl ?_
    rcases List.mem_cons.1 ho with rfl | ho
    · rw [List.mem_singleton.1 hb]
      simp [DR.bs]
    · rcases List.mem_cons.1 ho with rfl | ho
      · have hb' : x.v.ownBlock = some b := by simpa [rowO] using hb
        simp [DR.bs, hx, hb']
      · rw [List.mem_singleton.1 ho] at hb
        rw [List.mem_singleton.1 hb]
        simp [DR.bs, hx]
  · have a1 := r.a1
    have a2 := r.a2
    have a3 := r.a3
    simp only [List.pairwise_cons, List.mem_cons, List.not_mem_nil, or_false, forall_eq_or_imp, forall_eq, boxO, rowO, mapO, List.mem_singleton]
    refine ⟨⟨fun hb => a1 (by simpa using hb), fun hb => a3 hb.symm⟩, ⟨fun g hg e => a2 (by rw [← e]; simpa using hg), ?_⟩⟩
    simp
theorem DI.end1 {w X Y : World} {B k : Nat} {d d' : DR} {x' : RX} {M : List Ob} (hb : ∀ b ∈ d.bs B, w.heap.size ≤ b) (hwx : Fr w X []) (hS : Sy X Y (d.bs B) (boxO B d'.cs :: rowO w.heap.size 74 22 x'.v x'.rs.length (flatR x'.rs) :: mapO x'.mb x'.n x'.sz x'.F :: M)) (hx : d'.rx = some x') (hrd : ReadsP w d'.A d'.s.ps) (hgd : GS d'.s) (hri : RIi x'.rs x'.F 0) (hgr : ∀ r ∈ x'.rs, OkP r.p ∧ SP r.p) (hl : x'.rs.length ≤ k) (hn : x'.n ≤ k) : DP w X B k d d' Y := by
  have lo2 : ∀ (i : Nat) (o : Ob), (boxO B d'.cs :: rowO w.heap.size 74 22 x'.v x'.rs.length (flatR x'.rs) :: mapO x'.mb x'.n x'.sz x'.F :: M)[i]? = some o → ∀ b ∈ o.bs, w.heap.size ≤ b := by
    intro i o hi b hbo
    rcases hS.lo o (List.mem_of_getElem? hi) b hbo with h | h
    · exact hb b h
    · exact Nat.le_trans hwx.size h
  have dis := hS.dis
  rw [List.pairwise_cons, List.pairwise_cons] at dis
  obtain ⟨d1, d2, d3⟩ := dis
  have a1 : x'.v.ownBlock ≠ some B := fun e => d1 (rowO w.heap.size 74 22 x'.v x'.rs.length (flatR x'.rs)) (List.mem_cons_self ..) B (by simp [boxO]) (by simp [rowO, e])
  have a3 : x'.mb ≠ B := fun e => d1 (mapO x'.mb x'.n x'.sz x'.F) (List.mem_cons_of_mem _ (List.mem_cons_self ..)) B (by simp [boxO]) (by simp [mapO, e])
  have a2 : x'.v.ownBlock ≠ some x'.mb := fun e => d2 (mapO x'.mb x'.n x'.sz x'.F) (List.mem_cons_self ..) x'.mb (by simp [rowO, e]) (by simp [mapO])
  refine ⟨⟨hS.hold 0 rfl, hrd, hgd, lo2 0 _ rfl B (by simp [boxO]), fun x hx2 => ?_⟩, hS.fr, fun b hb2 => ?_⟩
  · obtain rfl := Option.some.inj (hx.symm.trans hx2)
    exact ⟨hS.get 1 rfl, hS.get 2 rfl, hri, hgr, lo2 2 _ rfl _ (by simp [mapO]), a1, a2, a3, hl, hn⟩
  · unfold DR.bs at hb2
    simp only [hx] at hb2
    rcases List.mem_cons.1 hb2 with rfl | hb2
    · exact hS.lo _ (List.mem_of_getElem? (i := 0) rfl) b (by simp [boxO])
    · rcases List.mem_append.1 hb2 with hb2 | hb2
      · exact hS.lo _ (List.mem_of_getElem? (i := 1) rfl) b hb2
      · exact hS.lo _ (List.mem_of_getElem? (i := 2) rfl) b (by simpa [mapO] using hb2)
end Go.Proofs.Ytcflglloopgieaa
