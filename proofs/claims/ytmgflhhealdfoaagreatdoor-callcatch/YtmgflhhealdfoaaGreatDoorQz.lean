import Derived.Test.YtmgflhhealdfoaaGreatDoorQy
set_option linter.all false
namespace Go.Proofs.YtmgflhhealdfoaaGreatDoor
set_option maxHeartbeats 1000000
section
open Go Go.Proofs Go.Maps Go.RowKit FM
/-! The heap. -/
/-- An object: its block, class, prototype, whether it is extensible, its table. -/
structure OB where
  b : Nat
  c : Int
  p : VV
  x : Bool
  T : TT
  m : Nat
  ow : Option (Nat × Value)
def mt : Nat → Nat
  | 0 => 72
  | 1 => 105
  | _ => 107
def ow1 : Option (Nat × Value) → Value
  | none => .nilIface
  | some (t, v) => .iface t v
def OB.cs (o : OB) : List Value := [.int .i64 o.c] ++ o.p.cs ++ [.bool o.x, .pointer (some ⟨o.T.t, 0, none⟩), .iface (mt o.m) (.agg #[]), ow1 o.ow]
def OB.ptr (o : OB) : Value := .pointer (some ⟨o.b, 0, none⟩)
theorem ocs_len (o : OB) : o.cs.length = 10 := rfl
/-- A heap: its block, its row of objects, the objects, how many there may be, its fuel, depth, and how many methods are entered. -/
structure HP where
  b : Nat
  gv : Value
  l : List OB
  cap : Int
  fuel : Int
  depth : Int
  ent : Int
  e : Ob
  eo : e.Ok
def hcs (h : HP) : List Value := [h.gv, .int .i64 h.cap, .int .i64 h.fuel, .int .i64 h.depth, .int .i64 h.ent]
def obO (o : OB) : Ob := ⟨o.b :: o.T.blocks, fun X => Holds X o.b o.cs ∧ o.T.Is X ∧ o.b ∉ o.T.blocks⟩
theorem obO_ok (o : OB) : (obO o).Ok := ⟨fun h k => ⟨k.1.block (h _ (List.mem_cons_self ..)), k.2.1.block (fun b hb => h b (List.mem_cons_of_mem _ hb)), k.2.2⟩, fun h b hb => by
  rcases List.mem_cons.1 hb with rfl | hb
  · exact h.1.lt (by rw [ocs_len]; omega)
  · exact h.2.1.lt b hb⟩
def HP.things (h : HP) : List Ob := boxO h.b (hcs h) :: rowO 0 87 1 h.gv h.l.length (h.l.map OB.ptr) :: h.e :: h.l.map obO
def HP.blocks (h : HP) : List Nat := h.things.flatMap (·.bs)
structure HP.Is (h : HP) (X : World) : Prop where
  ho : ∀ o ∈ h.things, o.P X
  dis : h.things.Pairwise (fun a b => ∀ x ∈ a.bs, x ∉ b.bs)
  low : ∀ b ∈ h.blocks, 6 ≤ b
theorem things_ok (h : HP) : ∀ o ∈ h.things, o.Ok := by
  intro o ho
  rcases List.mem_cons.1 ho with rfl | ho
  · exact boxO_ok _ _
  rcases List.mem_cons.1 ho with rfl | ho
  · exact rowO_ok _ _ _ _ _ _
  rcases List.mem_cons.1 ho with rfl | ho
  · exact h.eo
  obtain ⟨q, -, rfl⟩ := List.mem_map.1 ho
  exact obO_ok q
theorem HP.mem_blocks {h : HP} {o : Ob} {b : Nat} (ho : o ∈ h.things) (hb : b ∈ o.bs) : b ∈ h.blocks := List.mem_flatMap.2 ⟨o, ho, hb⟩
theorem HP.Is.lt {h : HP} {X : World} (H : h.Is X) : ∀ b ∈ h.blocks, b < X.heap.size := by
  intro b hb
  obtain ⟨o, ho, hb⟩ := List.mem_flatMap.1 hb
  exact (things_ok h o ho).lt (H.ho o ho) b hb
theorem HP.Is.block {h : HP} {X Y : World} (H : h.Is X) (hb : ∀ b ∈ h.blocks, Y.heap[b]? = X.heap[b]?) : h.Is Y :=
  ⟨fun o ho => (things_ok h o ho).on (fun b hb' => hb b (HP.mem_blocks ho hb')) (H.ho o ho), H.dis, H.low⟩
theorem HP.Is.on {h : HP} {X Y : World} (H : h.Is X) (k : Below X.heap.size X Y) : h.Is Y := H.block (fun b hb => k.block b (H.lt b hb))
theorem HP.Is.sy {h : HP} {X : World} (H : h.Is X) : Sy X X h.blocks h.things := ⟨Fr.refl _ _, things_ok h, H.ho, fun o ho b hb => .inl (HP.mem_blocks ho hb), H.dis⟩
def hpO (h : HP) : Ob := ⟨h.blocks, h.Is⟩
theorem hpO_ok (h : HP) : (hpO h).Ok := ⟨fun k H => HP.Is.block H k, fun H b hb => HP.Is.lt H b hb⟩
/-- One heap becomes another one: in its own blocks, or new ones. -/
structure HP.To (h h' : HP) (w w' : World) : Prop where
  is : h'.Is w'
  fr : Fr w w' h.blocks
  sub : ∀ b ∈ h'.blocks, b ∈ h.blocks ∨ w.heap.size ≤ b
  hb : h'.b = h.b
theorem HP.Is.big {h : HP} {X : World} (H : h.Is X) : 7 ≤ X.heap.size := by
  have h1 : h.b ∈ h.blocks := HP.mem_blocks (o := boxO h.b (hcs h)) (List.mem_cons_self ..) (List.mem_singleton.2 rfl)
  have := H.low _ h1
  have := H.lt _ h1
  omega
theorem HP.To.of {h h' : HP} {w Y : World} (H : h.Is w) (S : Sy w Y h.blocks h'.things) (hb : h'.b = h.b) : h.To h' w Y := by
  have sub : ∀ b ∈ h'.blocks, b ∈ h.blocks ∨ w.heap.size ≤ b := fun b hb => by
    obtain ⟨o, ho, hb⟩ := List.mem_flatMap.1 hb
    exact S.lo o ho b hb
  exact ⟨⟨S.ho, S.dis, fun b hb => (sub b hb).elim (H.low b) (fun h1 => by have := H.big; omega)⟩, S.fr, sub, hb⟩
theorem HP.To.refl {h : HP} {w w' : World} (H : h.Is w) (k : Below w.heap.size w w') : h.To h w w' := ⟨H.on k, Fr.of_below k _, fun b hb => .inl hb, rfl⟩
theorem HP.To.trans {h h' h2 : HP} {w w' w2 : World} (A : h.To h' w w') (B : h'.To h2 w' w2) : h.To h2 w w2 :=
  ⟨B.is, A.fr.trans B.fr (fun b hb => A.sub b hb), fun b hb => (B.sub b hb).elim (A.sub b) (fun h1 => .inr (Nat.le_trans A.fr.size h1)), B.hb.trans A.hb⟩
theorem Sy.heap {w X Y : World} {E : List Nat} {L : List Ob} {h h' : HP} (S : Sy w X E L) (i : Nat) (hi : L[i]? = some (hpO h)) (A : h.To h' X Y) : Sy w Y E (L.set i (hpO h')) := S.set i hi (hpO_ok h') A.is A.fr A.sub
theorem Sy.hp {w X : World} {E : List Nat} {L : List Ob} {h : HP} (S : Sy w X E L) (i : Nat) (hi : L[i]? = some (hpO h)) : h.Is X := S.get i hi
theorem HP.Is.start {h : HP} {w : World} (H : h.Is w) : Sy w w h.blocks [hpO h] := ⟨Fr.refl _ _, fun o ho => by rw [List.mem_singleton.1 ho]; exact hpO_ok h, fun o ho => by rw [List.mem_singleton.1 ho]; exact H, fun o ho b hb => .inl (by rw [List.mem_singleton.1 ho] at hb; exact hb), by simp⟩
theorem HP.To.end {h h' : HP} {w Y : World} {L : List Ob} (H : h.Is w) (S : Sy w Y h.blocks (hpO h' :: L)) (hb : h'.b = h.b) : h.To h' w Y := by
  have h1 : h'.Is Y := S.get 0 rfl
  exact ⟨h1, S.fr, fun b hb => S.lo _ (List.mem_cons_self ..) b hb, hb⟩
theorem HP.Is.blk {h : HP} {X : World} (H : h.Is X) : Holds X h.b (hcs h) := (H.ho _ (List.mem_cons_self ..)).1
theorem HP.Is.own {h : HP} {X : World} (H : h.Is X) : X.ownsRow 0 87 1 h.gv h.l.length (h.l.map OB.ptr) := H.ho _ (List.mem_cons_of_mem _ (List.mem_cons_self ..))
theorem HP.Is.ob {h : HP} {X : World} (H : h.Is X) {j : Nat} {o : OB} (hj : h.l[j]? = some o) : Holds X o.b o.cs ∧ o.T.Is X ∧ o.b ∉ o.T.blocks := H.ho (obO o) (List.mem_cons_of_mem _ (List.mem_cons_of_mem _ (List.mem_cons_of_mem _ (List.mem_map_of_mem (List.mem_of_getElem? hj)))))
theorem HP.Is.form {h : HP} {X : World} (H : h.Is X) : ∃ A c, h.gv = .slice A h.l.length c := own_form H.own
theorem HP.Is.low_tab {h : HP} {X : World} (H : h.Is X) {j : Nat} {o : OB} (hj : h.l[j]? = some o) : ∀ b ∈ o.T.blocks, 6 ≤ b := fun b hb => H.low b (HP.mem_blocks (o := obO o) (List.mem_cons_of_mem _ (List.mem_cons_of_mem _ (List.mem_cons_of_mem _ (List.mem_map_of_mem (List.mem_of_getElem? hj))))) (List.mem_cons_of_mem _ hb))
theorem HP.Is.ptr {h : HP} {X : World} (H : h.Is X) {j : Nat} {o : OB} (hj : h.l[j]? = some o) : ∃ g c, h.gv = .slice (some ⟨g, 0, none⟩) h.l.length c ∧ X.cell? ⟨g, j, none⟩ = some o.ptr := by
  have ho := H.own
  rcases ho.2 with ⟨h1, h0⟩ | ⟨g, cap, cur, h1, h2, h3, h4, h5, h6, h7⟩
  · have := (List.getElem?_eq_some_iff.1 hj).1
    omega
  · refine ⟨g, cap, h1, ?_⟩
    have hlt := (List.getElem?_eq_some_iff.1 hj).1
    have h8 : (cur.toList.take (h.l.length * 1))[j]? = (h.l.map OB.ptr)[j]? := by rw [h7]
    rw [List.getElem?_take, if_pos (by omega), List.getElem?_map, hj] at h8
    simp [World.cell?, h3]
    simpa using h8
/-- The heap's own cells. -/
theorem HP.Is.head {h h' : HP} {X : World} (H : h.Is X) (p : Nat) (vs : List Value) (hp : p + vs.length ≤ 5) (hb : h'.b = h.b) (hg : h'.gv = h.gv) (hl : h'.l = h.l) (hc : cput (hcs h) p vs = hcs h') (he : h'.e = h.e := by rfl) : h.To h' X (X.setCells h.b p vs) := by
  have S := H.sy.put 0 (b := h.b) (cs := hcs h) rfl p vs (by simpa [hcs] using hp)
  rw [hc] at S
  have e : h.things.set 0 (boxO h.b (hcs h')) = h'.things := by
    unfold HP.things
    rw [hb, hg, hl, he]
    rfl
  rw [e] at S
  exact HP.To.of H S hb
theorem things_at (h : HP) {j : Nat} {o : OB} (hj : h.l[j]? = some o) : h.things[j + 3]? = some (obO o) := by
  show (h.l.map obO)[j]? = _
  rw [List.getElem?_map, hj]
  rfl
theorem things_set (h h' : HP) (j : Nat) (o o' : OB) (hj : h.l[j]? = some o) (hb : h'.b = h.b) (hg : hcs h' = hcs h) (hl : h'.l = h.l.set j o') (ho : o'.b = o.b) (he : h'.e = h.e) : h.things.set (j + 3) (obO o') = h'.things := by
  have hgv : h'.gv = h.gv := by
    have := congrArg (fun l => l[0]?) hg
    simpa [hcs] using this
  have hp : (h.l.set j o').map OB.ptr = h.l.map OB.ptr := by
    rw [List.map_set]
    apply List.ext_getElem?
    intro i
    by_cases e : j = i
    · subst e
      have hlt := (List.getElem?_eq_some_iff.1 hj).1
      rw [List.getElem?_set_self (by simpa using hlt), List.getElem?_map, hj]
      simp [OB.ptr, ho]
    · rw [List.getElem?_set_ne e]
  unfold HP.things
  rw [hb, hg, hl, hgv, hp, he, List.length_set, List.set_cons_succ, List.set_cons_succ, List.set_cons_succ, List.map_set]
/-- One object changes: in its own blocks, or new ones. -/
theorem HP.Is.obj {h h' : HP} {X Y : World} (H : h.Is X) {j : Nat} {o o' : OB} (hj : h.l[j]? = some o) (hb : h'.b = h.b) (hg : hcs h' = hcs h) (hl : h'.l = h.l.set j o') (ho : o'.b = o.b) (hP : Holds Y o'.b o'.cs ∧ o'.T.Is Y ∧ o'.b ∉ o'.T.blocks) (hf : Fr X Y (o.b :: o.T.blocks)) (hs : ∀ b ∈ o'.T.blocks, b ∈ o.T.blocks ∨ X.heap.size ≤ b) (he : h'.e = h.e := by rfl) : h.To h' X Y := by
  have S := H.sy.set (j + 3) (things_at h hj) (obO_ok o') hP hf (fun b hb' => by
    rcases List.mem_cons.1 hb' with rfl | h1
    · exact .inl (by rw [ho]; exact List.mem_cons_self ..)
    · exact (hs b h1).imp (List.mem_cons_of_mem _) id)
  rw [things_set h h' j o o' hj hb hg hl ho he] at S
  exact HP.To.of H S hb
def noO : Ob := ⟨[], fun _ => True⟩
theorem noO_ok : noO.Ok := ⟨fun _ _ => trivial, fun _ b hb => by cases hb⟩
/-- What lies beside a heap becomes a thing of one of its objects. -/
theorem HP.take_blocks {h : HP} {e' : Ob} (eo' : e'.Ok) : ∀ b ∈ ({ h with e := e', eo := eo' } : HP).blocks, b ∈ h.blocks ∨ b ∈ e'.bs := by
  intro b hb
  obtain ⟨o, ho, hb2⟩ := List.mem_flatMap.1 hb
  clear hb
  rcases List.mem_cons.1 ho with rfl | ho
  · exact .inl (HP.mem_blocks (h := h) (List.mem_cons_self ..) hb2)
  rcases List.mem_cons.1 ho with rfl | ho
  · exact .inl (HP.mem_blocks (h := h) (List.mem_cons_of_mem _ (List.mem_cons_self ..)) hb2)
  rcases List.mem_cons.1 ho with rfl | ho
  · exact .inr hb2
  · exact .inl (HP.mem_blocks (h := h) (List.mem_cons_of_mem _ (List.mem_cons_of_mem _ (List.mem_cons_of_mem _ ho))) hb2)
theorem HP.Is.take {h : HP} {X : World} (H : h.Is X) {e' : Ob} (eo' : e'.Ok) (hP : e'.P X) (h0 : h.e.bs = []) (hd : ∀ b ∈ e'.bs, b ∉ h.blocks) (hl : ∀ b ∈ e'.bs, 6 ≤ b) : ({ h with e := e', eo := eo' } : HP).Is X := by
  refine ⟨fun o ho => ?_, ?_, fun b hb => ?_⟩
  · rcases List.mem_cons.1 ho with rfl | ho
    · exact H.ho _ (List.mem_cons_self ..)
    rcases List.mem_cons.1 ho with rfl | ho
    · exact H.ho _ (List.mem_cons_of_mem _ (List.mem_cons_self ..))
    rcases List.mem_cons.1 ho with rfl | ho
    · exact hP
    exact H.ho _ (List.mem_cons_of_mem _ (List.mem_cons_of_mem _ (List.mem_cons_of_mem _ ho)))
  · have hp := H.dis
    have hb : ∀ o ∈ h.things, ∀ x ∈ o.bs, x ∉ e'.bs := fun o ho x hx hxe => hd x hxe (HP.mem_blocks ho hx)
    unfold HP.things at hp hb ⊢
    rw [List.pairwise_cons, List.pairwise_cons, List.pairwise_cons] at hp
    rw [List.pairwise_cons, List.pairwise_cons, List.pairwise_cons]
    obtain ⟨p1, p2, p3, p4⟩ := hp
    refine ⟨fun o ho x hx => ?_, fun o ho x hx => ?_, fun o ho x hx hxo => ?_, p4⟩
    · rcases List.mem_cons.1 ho with rfl | ho
      · exact p1 _ (List.mem_cons_self ..) x hx
      rcases List.mem_cons.1 ho with rfl | ho
      · exact hb _ (List.mem_cons_self ..) x hx
      · exact p1 o (List.mem_cons_of_mem _ (List.mem_cons_of_mem _ ho)) x hx
    · rcases List.mem_cons.1 ho with rfl | ho
      · exact hb _ (List.mem_cons_of_mem _ (List.mem_cons_self ..)) x hx
      · exact p2 o (List.mem_cons_of_mem _ ho) x hx
    · exact hb o (List.mem_cons_of_mem _ (List.mem_cons_of_mem _ (List.mem_cons_of_mem _ ho))) x hxo hx
  · rcases HP.take_blocks eo' b hb with h1 | h1
    · exact H.low b h1
    · exact hl b h1
/-- An object's table changes. -/
theorem HP.Is.table {h : HP} {X Y : World} (H : h.Is X) {j : Nat} {o : OB} (hj : h.l[j]? = some o) {T' : TT} (hT : T'.Is Y) (ht : T'.t = o.T.t) (hf : Fr X Y o.T.blocks) (hs : ∀ b ∈ T'.blocks, b ∈ o.T.blocks ∨ X.heap.size ≤ b) : h.To { h with l := h.l.set j { o with T := T' } } X Y := by
  obtain ⟨h1, h2, h3⟩ := H.ob hj
  refine H.obj hj rfl rfl rfl (o' := { o with T := T' }) rfl ⟨?_, hT, ?_⟩ (hf.mono (fun b hb => .inl (List.mem_cons_of_mem _ hb))) hs
  · have e : ({ o with T := T' } : OB).cs = o.cs := by simp [OB.cs, ht]
    rw [e]
    exact h1.block (hf.block _ (h1.lt (by rw [ocs_len]; omega)) h3)
  · intro hb
    rcases hs _ hb with h4 | h4
    · exact h3 h4
    · have := h1.lt (by rw [ocs_len]; omega)
      dsimp only at h4
      omega

section
variable {ops : Array Oper} {rest : List Oper} {Q : Exit → Act → World → Prop} {w w0 : World} {a : Act} {o : Oper} {E : List Nat} {L : List Ob}
/-- A store into the heap's block. -/
theorem stH {h : HP} (h' : HP) {p : Nat} {vs : List Value} {v : Value} {x y : Operand} (i : Nat) (ty : TypeId) (hw : Region.wanted o (yielded ops a.tmps) = true) (ho : o.op = .store ty x y) (hx : a.eval x = .pointer (some ⟨h.b, p, none⟩)) (hy : a.eval y = v)
    (hv : v.cells.toList = vs) (h1 : ∀ u ∈ vs, u.oneCell' = true) (hi : (Tryz.prog.info? ty).map (·.size) = some vs.length) (hL : Sy w0 w E L) (hg : L[i]? = some (hpO h)) (hp : p + vs.length ≤ 5) (hb : h'.b = h.b) (hgv : h'.gv = h.gv) (hl : h'.l = h.l) (hc : cput (hcs h) p vs = hcs h')
    (hh : ∀ X, Sy w0 X E (L.set i (hpO h')) → wpList Tryz.prog ops Q rest (a.put o.dst undef) X) (he : h'.e = h.e := by rfl) : wpList Tryz.prog ops Q (o :: rest) a w := by
  refine BigFrame.wpList_want hw fun K hK => ?_
  have H := hL.hp i hg
  have hP := hK _ _ (hh _ (hL.heap i hg (H.head p vs hp hb hgv hl hc he)))
  unfold Oper.wp execOp
  simp only [ho, hx, hy, Instr.storeAt, Instr.sureAddr, Sem.run_bind, Sem.run_pure, Result.andThen_ok, run_storeVar_any w h.b p ty v vs hv (H.blk.there p vs.length (by simpa [hcs] using hp)) hi h1]
  exact hP
end
