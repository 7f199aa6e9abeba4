import Derived.Test.YthilnaeomkppaaaGreatFmtRc
set_option linter.all false
namespace Go.Proofs.YthilnaeomkppaaaGreatFmt
set_option maxHeartbeats 1000000
section
open Go Go.Proofs Go.Maps Go.RowKit FM
/-! The heap. -/
/-- An object: its block, class, prototype, whether it is extensible, its table. -/
structure OB where
  b : Nat
  c : Int
  p : VV
  x : Bool
  T : TT
def OB.cs (o : OB) : List Value := [.int .i64 o.c] ++ o.p.cs ++ [.bool o.x, .pointer (some ⟨o.T.t, 0, none⟩), .iface 60 (.agg #[]), .nilIface]
def OB.ptr (o : OB) : Value := .pointer (some ⟨o.b, 0, none⟩)
theorem ocs_len (o : OB) : o.cs.length = 10 := rfl
theorem ocs_one (o : OB) : ∀ u ∈ o.cs, u.oneCell' = true := by simp [OB.cs, VV.cs, Value.oneCell']
/-- A heap: its block, its row of objects, the objects, how many there may be, its fuel, depth, and how many methods are entered. -/
structure HP where
  b : Nat
  gv : Value
  l : List OB
  cap : Int
  fuel : Int
  depth : Int
  ent : Int
def hcs (h : HP) : List Value := [h.gv, .int .i64 h.cap, .int .i64 h.fuel, .int .i64 h.depth, .int .i64 h.ent]
def obO (o : OB) : Ob := ⟨o.b :: o.T.blocks, fun X => Holds X o.b o.cs ∧ o.T.Is X ∧ o.b ∉ o.T.blocks⟩
theorem obO_ok (o : OB) : (obO o).Ok := ⟨fun h k => ⟨k.1.block (h _ (List.mem_cons_self ..)), k.2.1.block (fun b hb => h b (List.mem_cons_of_mem _ hb)), k.2.2⟩, fun h b hb => by
  rcases List.mem_cons.1 hb with rfl | hb
  · exact h.1.lt (by rw [ocs_len]; omega)
  · exact h.2.1.lt b hb⟩
def HP.things (h : HP) : List Ob := boxO h.b (hcs h) :: rowO 0 88 1 h.gv h.l.length (h.l.map OB.ptr) :: h.l.map obO
def HP.blocks (h : HP) : List Nat := h.things.flatMap (·.bs)
structure HP.Is (h : HP) (X : World) : Prop where
  ho : ∀ o ∈ h.things, o.P X
  dis : h.things.Pairwise (fun a b => ∀ x ∈ a.bs, x ∉ b.bs)
  low : ∀ b ∈ h.blocks, 6 ≤ b
theorem things_ok (h : HP) : ∀ o ∈ h.things, o.Ok := by
  intro o ho
  rcases List.mem_cons.1 ho with rfl | ho
  · exact boxO_ok _ _
  rcases List.mem_cons.1 ho with rfl | ho
  · exact rowO_ok _ _ _ _ _ _
  obtain ⟨q, -, rfl⟩ := List.mem_map.1 ho
  exact obO_ok q
theorem HP.mem_blocks {h : HP} {o : Ob} {b : Nat} (ho : o ∈ h.things) (hb : b ∈ o.bs) : b ∈ h.blocks := List.mem_flatMap.2 ⟨o, ho, hb⟩
theorem HP.Is.lt {h : HP} {X : World} (H : h.Is X) : ∀ b ∈ h.blocks, b < X.heap.size := by
  intro b hb
  obtain ⟨o, ho, hb⟩ := List.mem_flatMap.1 hb
  exact (things_ok h o ho).lt (H.ho o ho) b hb
theorem HP.Is.block {h : HP} {X Y : World} (H : h.Is X) (hb : ∀ b ∈ h.blocks, Y.heap[b]? = X.heap[b]?) : h.Is Y :=
  ⟨fun o ho => (things_ok h o ho).on (fun b hb' => hb b (HP.mem_blocks ho hb')) (H.ho o ho), H.dis, H.low⟩
theorem HP.Is.on {h : HP} {X Y : World} (H : h.Is X) (k : Below X.heap.size X Y) : h.Is Y := H.block (fun b hb => k.block b (H.lt b hb))
theorem HP.Is.drew {h : HP} {X : World} (H : h.Is X) : h.Is X.drew := H.block (fun _ _ => rfl)
theorem HP.Is.sy {h : HP} {X : World} (H : h.Is X) : Sy X X h.blocks h.things := ⟨Fr.refl _ _, things_ok h, H.ho, fun o ho b hb => .inl (HP.mem_blocks ho hb), H.dis⟩
def hpO (h : HP) : Ob := ⟨h.blocks, h.Is⟩
theorem hpO_ok (h : HP) : (hpO h).Ok := ⟨fun k H => HP.Is.block H k, fun H b hb => HP.Is.lt H b hb⟩
/-- One heap becomes another one: in its own blocks, or new ones. -/
structure HP.To (h h' : HP) (w w' : World) : Prop where
  is : h'.Is w'
  fr : Fr w w' h.blocks
  sub : ∀ b ∈ h'.blocks, b ∈ h.blocks ∨ w.heap.size ≤ b
  hb : h'.b = h.b
theorem HP.Is.big {h : HP} {X : World} (H : h.Is X) : 7 ≤ X.heap.size := by
  have h1 : h.b ∈ h.blocks := HP.mem_blocks (o := boxO h.b (hcs h)) (List.mem_cons_self ..) (List.mem_singleton.2 rfl)
  have := H.low _ h1
  have := H.lt _ h1
  omega
theorem HP.To.of {h h' : HP} {w Y : World} (H : h.Is w) (S : Sy w Y h.blocks h'.things) (hb : h'.b = h.b) : h.To h' w Y := by
  have sub : ∀ b ∈ h'.blocks, b ∈ h.blocks ∨ w.heap.size ≤ b := fun b hb => by
    obtain ⟨o, ho, hb⟩ := List.mem_flatMap.1 hb
    exact S.lo o ho b hb
  exact ⟨⟨S.ho, S.dis, fun b hb => (sub b hb).elim (H.low b) (fun h1 => by have := H.big; omega)⟩, S.fr, sub, hb⟩
theorem HP.To.refl {h : HP} {w w' : World} (H : h.Is w) (k : Below w.heap.size w w') : h.To h w w' := ⟨H.on k, Fr.of_below k _, fun b hb => .inl hb, rfl⟩
theorem HP.To.trans {h h' h2 : HP} {w w' w2 : World} (A : h.To h' w w') (B : h'.To h2 w' w2) : h.To h2 w w2 :=
  ⟨B.is, A.fr.trans B.fr (fun b hb => A.sub b hb), fun b hb => (B.sub b hb).elim (A.sub b) (fun h1 => .inr (Nat.le_trans A.fr.size h1)), B.hb.trans A.hb⟩
theorem HP.To.on {h h' : HP} {w w' w2 : World} (A : h.To h' w w') (k : Below w'.heap.size w' w2) : h.To h' w w2 := A.trans (HP.To.refl A.is k)
theorem HP.To.drew {h h' : HP} {w w' : World} (A : h.To h' w w') : h.To h' w w'.drew := A.on ((Below.refl _ _).drew)
theorem Sy.heap {w X Y : World} {E : List Nat} {L : List Ob} {h h' : HP} (S : Sy w X E L) (i : Nat) (hi : L[i]? = some (hpO h)) (A : h.To h' X Y) : Sy w Y E (L.set i (hpO h')) := S.set i hi (hpO_ok h') A.is A.fr A.sub
theorem Sy.hp {w X : World} {E : List Nat} {L : List Ob} {h : HP} (S : Sy w X E L) (i : Nat) (hi : L[i]? = some (hpO h)) : h.Is X := S.get i hi
theorem HP.Is.start {h : HP} {w : World} (H : h.Is w) : Sy w w h.blocks [hpO h] := ⟨Fr.refl _ _, fun o ho => by rw [List.mem_singleton.1 ho]; exact hpO_ok h, fun o ho => by rw [List.mem_singleton.1 ho]; exact H, fun o ho b hb => .inl (by rw [List.mem_singleton.1 ho] at hb; exact hb), by simp⟩
theorem HP.To.end {h h' : HP} {w Y : World} {L : List Ob} (H : h.Is w) (S : Sy w Y h.blocks (hpO h' :: L)) (hb : h'.b = h.b) : h.To h' w Y := by
  have h1 : h'.Is Y := S.get 0 rfl
  exact ⟨h1, S.fr, fun b hb => S.lo _ (List.mem_cons_self ..) b hb, hb⟩
theorem HP.Is.blk {h : HP} {X : World} (H : h.Is X) : Holds X h.b (hcs h) := (H.ho _ (List.mem_cons_self ..)).1
theorem HP.Is.own {h : HP} {X : World} (H : h.Is X) : X.ownsRow 0 88 1 h.gv h.l.length (h.l.map OB.ptr) := H.ho _ (List.mem_cons_of_mem _ (List.mem_cons_self ..))
theorem HP.Is.ob {h : HP} {X : World} (H : h.Is X) {j : Nat} {o : OB} (hj : h.l[j]? = some o) : Holds X o.b o.cs ∧ o.T.Is X ∧ o.b ∉ o.T.blocks := H.ho (obO o) (List.mem_cons_of_mem _ (List.mem_cons_of_mem _ (List.mem_map_of_mem (List.mem_of_getElem? hj))))
theorem HP.Is.form {h : HP} {X : World} (H : h.Is X) : ∃ A c, h.gv = .slice A h.l.length c := own_form H.own
theorem HP.Is.low_tab {h : HP} {X : World} (H : h.Is X) {j : Nat} {o : OB} (hj : h.l[j]? = some o) : ∀ b ∈ o.T.blocks, 6 ≤ b := fun b hb => H.low b (HP.mem_blocks (o := obO o) (List.mem_cons_of_mem _ (List.mem_cons_of_mem _ (List.mem_map_of_mem (List.mem_of_getElem? hj)))) (List.mem_cons_of_mem _ hb))
theorem HP.Is.ptr {h : HP} {X : World} (H : h.Is X) {j : Nat} {o : OB} (hj : h.l[j]? = some o) : ∃ g c, h.gv = .slice (some ⟨g, 0, none⟩) h.l.length c ∧ X.cell? ⟨g, j, none⟩ = some o.ptr := by
  have ho := H.own
  rcases ho.2 with ⟨h1, h0⟩ | ⟨g, cap, cur, h1, h2, h3, h4, h5, h6, h7⟩
  · have := (List.getElem?_eq_some_iff.1 hj).1
    omega
  · refine ⟨g, cap, h1, ?_⟩
    have hlt := (List.getElem?_eq_some_iff.1 hj).1
    have h8 : (cur.toList.take (h.l.length * 1))[j]? = (h.l.map OB.ptr)[j]? := by rw [h7]
    rw [List.getElem?_take, if_pos (by omega), List.getElem?_map, hj] at h8
    simp [World.cell?, h3]
    simpa using h8
/-- The heap's own cells. -/
theorem HP.Is.head {h h' : HP} {X : World} (H : h.Is X) (p : Nat) (vs : List Value) (hp : p + vs.length ≤ 5) (hb : h'.b = h.b) (hg : h'.gv = h.gv) (hl : h'.l = h.l) (hc : cput (hcs h) p vs = hcs h') : h.To h' X (X.setCells h.b p vs) := by
  have S := H.sy.put 0 (b := h.b) (cs := hcs h) rfl p vs (by simpa [hcs] using hp)
  rw [hc] at S
  have e : h.things.set 0 (boxO h.b (hcs h')) = h'.things := by
    unfold HP.things
    rw [hb, hg, hl]
    rfl
  rw [e] at S
  exact HP.To.of H S hb
theorem things_at (h : HP) {j : Nat} {o : OB} (hj : h.l[j]? = some o) : h.things[j + 2]? = some (obO o) := by
  show (h.l.map obO)[j]? = _
  rw [List.getElem?_map, hj]
  rfl
theorem things_set (h h' : HP) (j : Nat) (o o' : OB) (hj : h.l[j]? = some o) (hb : h'.b = h.b) (hg : hcs h' = hcs h) (hl : h'.l = h.l.set j o') (ho : o'.b = o.b) : h.things.set (j + 2) (obO o') = h'.things := by
  have hgv : h'.gv = h.gv := by
    have := congrArg (fun l => l[0]?) hg
    simpa [hcs] using this
  have hp : (h.l.set j o').map OB.ptr = h.l.map OB.ptr := by
    rw [List.map_set]
    apply List.ext_getElem?
    intro i
    by_cases e : j = i
    · subst e
      have hlt := (List.getElem?_eq_some_iff.1 hj).1
      rw [List.getElem?_set_self (by simpa using hlt), List.getElem?_map, hj]
      simp [OB.ptr, ho]
    · rw [List.getElem?_set_ne e]
  unfold HP.things
  rw [hb, hg, hl, hgv, hp, List.length_set, List.set_cons_succ, List.set_cons_succ, List.map_set]
/-- One object changes: in its own blocks, or new ones. -/
theorem HP.Is.obj {h h' : HP} {X Y : World} (H : h.Is X) {j : Nat} {o o' : OB} (hj : h.l[j]? = some o) (hb : h'.b = h.b) (hg : hcs h' = hcs h) (hl : h'.l = h.l.set j o') (ho : o'.b = o.b) (hP : Holds Y o'.b o'.cs ∧ o'.T.Is Y ∧ o'.b ∉ o'.T.blocks) (hf : Fr X Y (o.b :: o.T.blocks)) (hs : ∀ b ∈ o'.T.blocks, b ∈ o.T.blocks ∨ X.heap.size ≤ b) : h.To h' X Y := by
  have S := H.sy.set (j + 2) (things_at h hj) (obO_ok o') hP hf (fun b hb' => by
    rcases List.mem_cons.1 hb' with rfl | h1
    · exact .inl (by rw [ho]; exact List.mem_cons_self ..)
    · exact (hs b h1).imp (List.mem_cons_of_mem _) id)
  rw [things_set h h' j o o' hj hb hg hl ho] at S
  exact HP.To.of H S hb
/-- Cells of an object's block. -/
theorem HP.Is.cell {h h' : HP} {X : World} (H : h.Is X) {j : Nat} {o o' : OB} (hj : h.l[j]? = some o) (p : Nat) (vs : List Value) (hp : p + vs.length ≤ 10) (hb : h'.b = h.b) (hg : hcs h' = hcs h) (hl : h'.l = h.l.set j o') (ho : o'.b = o.b) (hT : o'.T = o.T) (hc : cput o.cs p vs = o'.cs) : h.To h' X (X.setCells o.b p vs) := by
  obtain ⟨h1, h2, h3⟩ := H.ob hj
  have hf := Fr.setCells X o.b p vs
  refine H.obj hj hb hg hl ho ⟨?_, ?_, ?_⟩ (hf.mono (fun b hb' => .inl (by rw [List.mem_singleton.1 hb']; exact List.mem_cons_self ..))) (fun b hb' => .inl (hT ▸ hb'))
  · rw [ho, ← hc]
    exact h1.put p vs (by rw [ocs_len]; exact hp)
  · rw [hT]
    exact h2.block (fun b hb' => hf.block b (h2.lt b hb') (fun e => h3 (List.mem_singleton.1 e ▸ hb')))
  · rw [hT, ho]
    exact h3
/-- An object's table changes. -/
theorem HP.Is.table {h : HP} {X Y : World} (H : h.Is X) {j : Nat} {o : OB} (hj : h.l[j]? = some o) {T' : TT} (hT : T'.Is Y) (ht : T'.t = o.T.t) (hf : Fr X Y o.T.blocks) (hs : ∀ b ∈ T'.blocks, b ∈ o.T.blocks ∨ X.heap.size ≤ b) : h.To { h with l := h.l.set j { o with T := T' } } X Y := by
  obtain ⟨h1, h2, h3⟩ := H.ob hj
  refine H.obj hj rfl rfl rfl (o' := { o with T := T' }) rfl ⟨?_, hT, ?_⟩ (hf.mono (fun b hb => .inl (List.mem_cons_of_mem _ hb))) hs
  · have e : ({ o with T := T' } : OB).cs = o.cs := by simp [OB.cs, ht]
    rw [e]
    exact h1.block (hf.block _ (h1.lt (by rw [ocs_len]; omega)) h3)
  · intro hb
    rcases hs _ hb with h4 | h4
    · exact h3 h4
    · have := h1.lt (by rw [ocs_len]; omega)
      dsimp only at h4
      omega

section
variable {ops : Array Oper} {rest : List Oper} {Q : Exit → Act → World → Prop} {w w0 : World} {a : Act} {o : Oper} {E : List Nat} {L : List Ob}
/-- A store into the heap's block. -/
theorem stH {h : HP} (h' : HP) {p : Nat} {vs : List Value} {v : Value} {x y : Operand} (i : Nat) (ty : TypeId) (hw : Region.wanted o (yielded ops a.tmps) = true) (ho : o.op = .store ty x y) (hx : a.eval x = .pointer (some ⟨h.b, p, none⟩)) (hy : a.eval y = v)
    (hv : v.cells.toList = vs) (h1 : ∀ u ∈ vs, u.oneCell' = true) (hi : (Tryz.prog.info? ty).map (·.size) = some vs.length) (hL : Sy w0 w E L) (hg : L[i]? = some (hpO h)) (hp : p + vs.length ≤ 5) (hb : h'.b = h.b) (hgv : h'.gv = h.gv) (hl : h'.l = h.l) (hc : cput (hcs h) p vs = hcs h')
    (hh : ∀ X, Sy w0 X E (L.set i (hpO h')) → wpList Tryz.prog ops Q rest (a.put o.dst undef) X) : wpList Tryz.prog ops Q (o :: rest) a w := by
  refine BigFrame.wpList_want hw fun K hK => ?_
  have H := hL.hp i hg
  have hP := hK _ _ (hh _ (hL.heap i hg (H.head p vs hp hb hgv hl hc)))
  unfold Oper.wp execOp
  simp only [ho, hx, hy, Instr.storeAt, Instr.sureAddr, Sem.run_bind, Sem.run_pure, Result.andThen_ok, run_storeVar_any w h.b p ty v vs hv (H.blk.there p vs.length (by simpa [hcs] using hp)) hi h1]
  exact hP
/-- A store into an object's block. -/
theorem stO {h : HP} (h' : HP) {j : Nat} {q q' : OB} {p : Nat} {vs : List Value} {v : Value} {x y : Operand} (i : Nat) (ty : TypeId) (hw : Region.wanted o (yielded ops a.tmps) = true) (ho : o.op = .store ty x y) (hx : a.eval x = .pointer (some ⟨q.b, p, none⟩)) (hy : a.eval y = v)
    (hv : v.cells.toList = vs) (h1 : ∀ u ∈ vs, u.oneCell' = true) (hi : (Tryz.prog.info? ty).map (·.size) = some vs.length) (hL : Sy w0 w E L) (hg : L[i]? = some (hpO h)) (hj : h.l[j]? = some q) (hp : p + vs.length ≤ 10) (hb : h'.b = h.b) (hgv : hcs h' = hcs h) (hl : h'.l = h.l.set j q') (hq : q'.b = q.b) (hT : q'.T = q.T) (hc : cput q.cs p vs = q'.cs)
    (hh : ∀ X, Sy w0 X E (L.set i (hpO h')) → wpList Tryz.prog ops Q rest (a.put o.dst undef) X) : wpList Tryz.prog ops Q (o :: rest) a w := by
  refine BigFrame.wpList_want hw fun K hK => ?_
  have H := hL.hp i hg
  have hP := hK _ _ (hh _ (hL.heap i hg (H.cell hj p vs hp hb hgv hl hq hT hc)))
  unfold Oper.wp execOp
  simp only [ho, hx, hy, Instr.storeAt, Instr.sureAddr, Sem.run_bind, Sem.run_pure, Result.andThen_ok, run_storeVar_any w q.b p ty v vs hv ((H.ob hj).1.there p vs.length (by rw [ocs_len]; exact hp)) hi h1]
  exact hP
end
theorem len_h (h : HP) (w : World) (H : h.Is w) : Calls Tryz.prog 53 #[.pointer (some ⟨h.b, 0, none⟩)] w fun e w' => e = .returned (.int .i64 (h.l.length : Nat)) ∧ w' = w := by
  obtain ⟨A, c, hgv⟩ := H.form
  have HB : Hid (Holds w h.b [.slice A h.l.length c, .int .i64 h.cap, .int .i64 h.fuel, .int .i64 h.depth, .int .i64 h.ent]) := hide (by have := H.blk; unfold hcs at this; rw [hgv] at this; exact this)
  clear hgv H
  go_enter Tryz.func53, Tryz.ntmps53
  go_wp2_with (first | go_skip | ((with_reducible show wpList _ _ _ _ _ _); first | (refine rd (by rfl) (ex_load1 49 Tryz.isAgg49 rfl rfl (unhide HB) rfl) ?_; simp only [Act.put, n1, n2, n3]) | (refine rd (by rfl) (ex_lenG 49 88 Tryz.underlying49 rfl rfl) ?_; simp only [Act.put, n1, n2, n3])))
  go_ret
  exact ⟨rfl, rfl⟩
theorem fuel_h (h : HP) (w : World) (H : h.Is w) : Calls Tryz.prog 8 #[.pointer (some ⟨h.b, 0, none⟩)] w fun e w' => e = .returned (.int .i64 h.fuel) ∧ w' = w := by
  have HB := hide H.blk
  clear H
  go_enter Tryz.func8, Tryz.ntmps8
  go_wp2_with (first | go_skip | ((with_reducible show wpList _ _ _ _ _ _); first | (refine rd (by rfl) (ex_load1 3 Tryz.isAgg3 rfl rfl (unhide HB) rfl) ?_; simp only [Act.put, n1, n2, n3])))
  go_ret
  exact ⟨rfl, rfl⟩
def hasH (o : Int) (n : Nat) : Bool := decide (1 ≤ o) && decide (o ≤ (n : Int))
theorem has_h (h : HP) (o : Int) (w : World) (H : h.Is w) : Calls Tryz.prog 43 #[.pointer (some ⟨h.b, 0, none⟩), .int .i64 o] w fun e w' => e = .returned (.bool (hasH o h.l.length)) ∧ w' = w := by
  have HL := hide (len_h h w H)
  clear H
  unfold hasH
  by_cases h1 : 1 ≤ o
  · have e : (decide (1 ≤ o) && decide (o ≤ (h.l.length : Int))) = decide (o ≤ (h.l.length : Int)) := by simp [h1]
    rw [e]
    clear e
    go_enter Tryz.func43, Tryz.ntmps43
    go_wp2_with fail
    refine (unhide HL).mono ?_
    rintro _ _ ⟨rfl, rfl⟩
    go_wp2
    go_ret
    exact ⟨rfl, rfl⟩
  · have e : (decide (1 ≤ o) && decide (o ≤ (h.l.length : Int))) = false := by simp [h1]
    rw [e]
    clear e
    go_enter Tryz.func43, Tryz.ntmps43
    go_wp2
    go_ret
    exact ⟨rfl, rfl⟩
def thE (o : Int) (n : Nat) : Int := if hasH o n then 0 else 4
theorem there_h (h : HP) (o : Int) (w : World) (H : h.Is w) : Calls Tryz.prog 25 #[.pointer (some ⟨h.b, 0, none⟩), .int .i64 o] w fun e w' => e = .returned (.int .i64 (thE o h.l.length)) ∧ w' = w := by
  have HL := hide (has_h h o w H)
  clear H
  unfold thE
  generalize hasH o h.l.length = z at *
  cases z
  · go_enter Tryz.func25, Tryz.ntmps25
    go_wp2_with fail
    refine (unhide HL).mono ?_
    rintro _ _ ⟨rfl, rfl⟩
    go_wp2
    go_ret
    exact ⟨rfl, rfl⟩
  · go_enter Tryz.func25, Tryz.ntmps25
    go_wp2_with fail
    refine (unhide HL).mono ?_
    rintro _ _ ⟨rfl, rfl⟩
    go_wp2
    go_ret
    exact ⟨rfl, rfl⟩
theorem has_some {h : HP} {o : Int} (ho : hasH o h.l.length = true) : ∃ (j : Nat) (q : OB), o = (j : Int) + 1 ∧ h.l[j]? = some q := by
  unfold hasH at ho
  simp at ho
  refine ⟨(o - 1).toNat, h.l[(o - 1).toNat]'(by omega), by omega, List.getElem?_eq_getElem _⟩
theorem some_has {h : HP} {j : Nat} {q : OB} (hj : h.l[j]? = some q) : hasH ((j : Int) + 1) h.l.length = true := by
  have := (List.getElem?_eq_some_iff.1 hj).1
  unfold hasH
  simp
  omega
theorem ex_index1 {o : Oper} {a : Act} {w : World} {x ix : Operand} {g n cap : Nat} (t : TypeId) (j : Nat) (hk : Tryz.prog.underlying t = some (.slice (Tryz.prog.elem t))) (he : ∀ w, (sizeOf (Tryz.prog.elem t)).run Tryz.prog w = .ok 1 w) (ho : o.op = .indexAddr t x ix) (hx : a.eval x = .slice (some ⟨g, 0, none⟩) n cap) (hix : a.eval ix = .int .i64 (j : Nat)) (hj : j < n) : (execOp a.eval o).run Tryz.prog w = .ok (.value (.pointer (some ⟨g, j, none⟩))) w := by
  have h1 : (Instr.indexAt t (.slice (some ⟨g, 0, none⟩) n cap) (.int .i64 (j : Nat))).run Tryz.prog w = .ok (.pointer (some ⟨g, j, none⟩)) w := by
    rw [run_indexAt_slice (h := hk), if_pos ⟨by omega, by omega⟩, he]
    have e2 : (Addr.add ⟨g, 0, none⟩ ((j : Int).toNat * 1)) = ⟨g, j, none⟩ := by
      rw [Addr.add_mid]
      simp
    show Result.ok (Value.pointer (some (Addr.add ⟨g, 0, none⟩ ((j : Int).toNat * 1)))) w = _
    rw [e2]
  unfold execOp
  simp only [ho, hx, hix]
  simp [h1]
theorem ex_loadK {o : Oper} {a : Act} {w : World} {x : Operand} {b p : Nat} {v : Value} (t : TypeId) (ht : ∀ w, (isAgg t).run Tryz.prog w = .ok false w) (ho : o.op = .load t x) (hx : a.eval x = .pointer (some ⟨b, p, none⟩)) (hv : w.cell? ⟨b, p, none⟩ = some v) : (execOp a.eval o).run Tryz.prog w = .ok (.value v) w := by
  unfold execOp
  simp only [ho, hx]
  simp [go_sem, ht, hv]
theorem at_h (h : HP) (j : Nat) (q : OB) (w : World) (H : h.Is w) (hj : h.l[j]? = some q) (hn : h.l.length ≤ 65536) : Calls Tryz.prog 39 #[.pointer (some ⟨h.b, 0, none⟩), .int .i64 ((j : Int) + 1)] w fun e w' => e = .returned (.pointer (some ⟨q.b, 0, none⟩)) ∧ w' = w := by
  obtain ⟨g, c, hgv, hcell⟩ := H.ptr hj
  have hlt := (List.getElem?_eq_some_iff.1 hj).1
  have HB : Hid (Holds w h.b [.slice (some ⟨g, 0, none⟩) h.l.length c, .int .i64 h.cap, .int .i64 h.fuel, .int .i64 h.depth, .int .i64 h.ent]) := hide (by have := H.blk; unfold hcs at this; rw [hgv] at this; exact this)
  have HC : Hid (w.cell? ⟨g, j, none⟩ = some (.pointer (some ⟨q.b, 0, none⟩))) := hide hcell
  have z1 : IntKind.i64.wrap ((j : Int) + 1 - 1) = (j : Int) := by rw [IntKind.wrap_i64]; omega
  clear hgv H hcell hj
  go_enter Tryz.func39, Tryz.ntmps39
  go_wp2_with (first | go_skip | ((with_reducible show wpList _ _ _ _ _ _); first | (refine rd (by rfl) (ex_load1 49 Tryz.isAgg49 rfl rfl (unhide HB) rfl) ?_; simp only [Act.put, n1, n2, n3]) | (refine rd (by rfl) (ex_index1 49 j unOs idOs rfl rfl rfl hlt) ?_; simp only [Act.put, n1, n2, n3]) | (refine rd (by rfl) (ex_loadK 88 Tryz.isAgg88 rfl rfl (unhide HC)) ?_; simp only [Act.put, n1, n2, n3])))
  go_ret
  exact ⟨rfl, rfl⟩
/-- What numbers a heap has. -/
structure HP.Ok (h : HP) : Prop where
  len : h.l.length ≤ 65536
  f0 : 0 ≤ h.fuel
  f1 : h.fuel ≤ 9223372036854775807
  e0 : 0 ≤ h.ent
  e1 : h.ent ≤ h.depth
  d1 : h.depth ≤ 100000000
def HP.less (h : HP) : HP := { h with fuel := h.fuel - 1 }
def HP.inn (h : HP) : HP := { h with fuel := h.fuel - 1, ent := h.ent + 1 }
def HP.out (h : HP) : HP := { h with ent := h.ent - 1 }
def ordM : Value := .iface 60 (.agg #[])
set_option maxRecDepth 100000 in
theorem enter_0 (h : HP) (o : Int) (w : World) (H : h.Is w) (hf : h.fuel = 0) : Calls Tryz.prog 47 #[.pointer (some ⟨h.b, 0, none⟩), .int .i64 o] w fun e w' => e = .returned (.tuple #[.nilIface, .int .i64 1]) ∧ w' = w := by
  have HB : Hid (Holds w h.b [h.gv, .int .i64 h.cap, .int .i64 0, .int .i64 h.depth, .int .i64 h.ent]) := hide (by have := H.blk; unfold hcs at this; rw [hf] at this; exact this)
  clear H
  go_enter Tryz.func47, Tryz.ntmps47
  go_wp2_with (first | go_skip | ((with_reducible show wpList _ _ _ _ _ _); first | (refine rd (by rfl) (ex_load1 3 Tryz.isAgg3 rfl rfl (unhide HB) rfl) ?_; simp only [Act.put, n1, n2, n3])))
  go_ret2
  exact ⟨rfl, rfl⟩
theorem ex_subF {o : Oper} {a : Act} {w : World} {x y : Operand} (h : HP) (ho : o.op = .binOp .sub 3 x y 3) (hx : a.eval x = .int .i64 h.fuel) (hc : a.eval y = .int .i64 1) (hF : 0 ≤ h.fuel ∧ h.fuel ≤ 9223372036854775807) : (execOp a.eval o).run Tryz.prog w = .ok (.value (.int .i64 (h.fuel - 1))) w := by
  have z : IntKind.i64.wrap (h.fuel - 1) = h.fuel - 1 := by rw [IntKind.wrap_i64]; omega
  unfold execOp
  simp only [ho, hx, hc]
  simp [go_sem, z]
theorem ex_addE {o : Oper} {a : Act} {w : World} {x y : Operand} (h : HP) (ho : o.op = .binOp .add 3 x y 3) (hx : a.eval x = .int .i64 h.ent) (hc : a.eval y = .int .i64 1) (hF : 0 ≤ h.ent ∧ h.ent ≤ 100000000) : (execOp a.eval o).run Tryz.prog w = .ok (.value (.int .i64 (h.ent + 1))) w := by
  have z : IntKind.i64.wrap (h.ent + 1) = h.ent + 1 := by rw [IntKind.wrap_i64]; omega
  unfold execOp
  simp only [ho, hx, hc]
  simp [go_sem, z]
theorem ex_subE {o : Oper} {a : Act} {w : World} {x y : Operand} (h : HP) (ho : o.op = .binOp .sub 3 x y 3) (hx : a.eval x = .int .i64 h.ent) (hc : a.eval y = .int .i64 1) (hF : 0 ≤ h.ent ∧ h.ent ≤ 100000001) : (execOp a.eval o).run Tryz.prog w = .ok (.value (.int .i64 (h.ent - 1))) w := by
  have z : IntKind.i64.wrap (h.ent - 1) = h.ent - 1 := by rw [IntKind.wrap_i64]; omega
  unfold execOp
  simp only [ho, hx, hc]
  simp [go_sem, z]
set_option maxRecDepth 100000 in
theorem enter_d (h : HP) (o : Int) (w : World) (H : h.Is w) (K : h.Ok) (hf : h.fuel ≠ 0) (hd : h.ent = h.depth) : Calls Tryz.prog 47 #[.pointer (some ⟨h.b, 0, none⟩), .int .i64 o] w fun e w' => e = .returned (.tuple #[.nilIface, .int .i64 2]) ∧ h.To h.less w w' := by
  have hF : 0 ≤ h.fuel ∧ h.fuel ≤ 9223372036854775807 := ⟨K.f0, K.f1⟩
  have SS := hide H.start
  go_enter Tryz.func47, Tryz.ntmps47
  go_wp2_with (first | go_skip | ((with_reducible show wpList _ _ _ _ _ _); first | (refine rd (by rfl) (ex_load1 3 Tryz.isAgg3 rfl rfl (((unhide SS).hp 0 rfl).blk) rfl) ?_; simp only [Act.put, n1, n2, n3]) | (refine rd (by rfl) (ex_eqNo rfl rfl rfl hf) ?_; simp only [Act.put, n1, n2, n3]) | (refine rd (by rfl) (ex_subF h rfl rfl rfl hF) ?_; simp only [Act.put, n1, n2, n3]) | ((refine stH (vs := [.int .i64 (h.fuel - 1)]) (h.less) 0 3 (by rfl) rfl rfl rfl rfl (by simp [Value.oneCell']) sz_i (unhide SS) rfl (by simp) rfl rfl rfl (by simp [cput, hcs, HP.less, HP.inn, HP.out]) ?_); intro X1 S1; replace SS := hide S1; clear S1; simp only [Act.put, n1, n2, n3])))
  have hS : Sy w _ h.blocks [hpO h.less] := (unhide SS).drew
  refine wp_region_held_drew (P := Tryz.prog) (S := fun X => Sy w X h.blocks [hpO h.less]) (by kernel_rfl) hS (fun hS0 => ?_)
  refine gsem 0 (some 18) (.pointer (some ⟨h.b, 0, none⟩)) rfl (by kernel_rfl) (by kernel_rfl) (by kernel_rfl) (fun _ _ _ h => h) (by kernel_rfl) (by kernel_rfl) (fun _ _ => by kernel_rfl) hS ?_
  simp only [Act.put, n1, n2, n3]
  refine gsem 1 (some 19) (.pointer (some ⟨h.b, 0, none⟩)) rfl (by kernel_rfl) (by kernel_rfl) (by kernel_rfl) (fun _ _ _ h => h) (by kernel_rfl) (by kernel_rfl) (fun _ _ => by kernel_rfl) hS ?_
  simp only [Act.put, n1, n2, n3]
  refine gsem 2 (some 20) (.pointer (some ⟨h.b, 4, none⟩)) rfl (by kernel_rfl) (by kernel_rfl) (by kernel_rfl) (fun _ _ _ h => h) (by kernel_rfl) (by kernel_rfl) (fun _ _ => by kernel_rfl) hS ?_
  simp only [Act.put, n1, n2, n3]
  refine gsem 3 (some 21) (.int .i64 h.ent) rfl (by kernel_rfl) (by kernel_rfl) (by kernel_rfl) (fun _ _ _ h => h) (by kernel_rfl) (by kernel_rfl) (fun X hX => ex_load1 3 Tryz.isAgg3 rfl rfl ((Sy.hp hX 0 rfl).blk) rfl) hS ?_
  simp only [Act.put, n1, n2, n3]
  refine gsem 4 (some 22) (.pointer (some ⟨h.b, 0, none⟩)) rfl (by kernel_rfl) (by kernel_rfl) (by kernel_rfl) (fun _ _ _ h => h) (by kernel_rfl) (by kernel_rfl) (fun _ _ => by kernel_rfl) hS ?_
  simp only [Act.put, n1, n2, n3]
  refine gsem 5 (some 23) (.pointer (some ⟨h.b, 0, none⟩)) rfl (by kernel_rfl) (by kernel_rfl) (by kernel_rfl) (fun _ _ _ h => h) (by kernel_rfl) (by kernel_rfl) (fun _ _ => by kernel_rfl) hS ?_
  simp only [Act.put, n1, n2, n3]
  refine gsem 6 (some 24) (.pointer (some ⟨h.b, 3, none⟩)) rfl (by kernel_rfl) (by kernel_rfl) (by kernel_rfl) (fun _ _ _ h => h) (by kernel_rfl) (by kernel_rfl) (fun _ _ => by kernel_rfl) hS ?_
  simp only [Act.put, n1, n2, n3]
  refine gsem 7 (some 25) (.int .i64 h.depth) rfl (by kernel_rfl) (by kernel_rfl) (by kernel_rfl) (fun _ _ _ h => h) (by kernel_rfl) (by kernel_rfl) (fun X hX => ex_load1 3 Tryz.isAgg3 rfl rfl ((Sy.hp hX 0 rfl).blk) rfl) hS ?_
  simp only [Act.put, n1, n2, n3]
  refine gsem 8 (some 26) (.bool true) rfl (by kernel_rfl) (by kernel_rfl) (by kernel_rfl) (fun _ _ _ h => h) (by kernel_rfl) (by kernel_rfl) (fun X hX => ex_eqYes rfl rfl rfl hd) hS ?_
  simp only [Act.put, n1, n2, n3]
  refine wpAnyH_done (by kernel_rfl) ?_ _
  try simp only [Act.put, n1, n2, n3]
  have SE := hide hS
  go_wp2
  go_ret2
  exact ⟨rfl, HP.To.end H (unhide SE) rfl⟩
set_option maxRecDepth 100000 in
theorem enter_n (h : HP) (j : Nat) (q : OB) (w : World) (H : h.Is w) (K : h.Ok) (hj : h.l[j]? = some q) (hf : h.fuel ≠ 0) (hd : h.ent ≠ h.depth) : Calls Tryz.prog 47 #[.pointer (some ⟨h.b, 0, none⟩), .int .i64 ((j : Int) + 1)] w fun e w' => e = .returned (.tuple #[ordM, .int .i64 0]) ∧ h.To h.inn w w' := by
  have hF : 0 ≤ h.fuel ∧ h.fuel ≤ 9223372036854775807 := ⟨K.f0, K.f1⟩
  have hE : 0 ≤ h.ent ∧ h.ent ≤ 100000000 := ⟨K.e0, by have := K.e1; have := K.d1; omega⟩
  have hl := K.len
  have SS := hide H.start
  go_enter Tryz.func47, Tryz.ntmps47
  go_wp2_with (first | go_skip | ((with_reducible show wpList _ _ _ _ _ _); first | (refine rd (by rfl) (ex_load1 3 Tryz.isAgg3 rfl rfl (((unhide SS).hp 0 rfl).blk) rfl) ?_; simp only [Act.put, n1, n2, n3]) | (refine rd (by rfl) (ex_eqNo rfl rfl rfl hf) ?_; simp only [Act.put, n1, n2, n3]) | (refine rd (by rfl) (ex_subF h rfl rfl rfl hF) ?_; simp only [Act.put, n1, n2, n3]) | ((refine stH (vs := [.int .i64 (h.fuel - 1)]) (h.less) 0 3 (by rfl) rfl rfl rfl rfl (by simp [Value.oneCell']) sz_i (unhide SS) rfl (by simp) rfl rfl rfl (by simp [cput, hcs, HP.less, HP.inn, HP.out]) ?_); intro X1 S1; replace SS := hide S1; clear S1; simp only [Act.put, n1, n2, n3])))
  have hS : Sy w _ h.blocks [hpO h.less] := (unhide SS).drew
  refine wp_region_held_drew (P := Tryz.prog) (S := fun X => Sy w X h.blocks [hpO h.less]) (by kernel_rfl) hS (fun hS0 => ?_)
  refine gsem 0 (some 18) (.pointer (some ⟨h.b, 0, none⟩)) rfl (by kernel_rfl) (by kernel_rfl) (by kernel_rfl) (fun _ _ _ h => h) (by kernel_rfl) (by kernel_rfl) (fun _ _ => by kernel_rfl) hS ?_
  simp only [Act.put, n1, n2, n3]
  refine gsem 1 (some 19) (.pointer (some ⟨h.b, 0, none⟩)) rfl (by kernel_rfl) (by kernel_rfl) (by kernel_rfl) (fun _ _ _ h => h) (by kernel_rfl) (by kernel_rfl) (fun _ _ => by kernel_rfl) hS ?_
  simp only [Act.put, n1, n2, n3]
  refine gsem 2 (some 20) (.pointer (some ⟨h.b, 4, none⟩)) rfl (by kernel_rfl) (by kernel_rfl) (by kernel_rfl) (fun _ _ _ h => h) (by kernel_rfl) (by kernel_rfl) (fun _ _ => by kernel_rfl) hS ?_
  simp only [Act.put, n1, n2, n3]
  refine gsem 3 (some 21) (.int .i64 h.ent) rfl (by kernel_rfl) (by kernel_rfl) (by kernel_rfl) (fun _ _ _ h => h) (by kernel_rfl) (by kernel_rfl) (fun X hX => ex_load1 3 Tryz.isAgg3 rfl rfl ((Sy.hp hX 0 rfl).blk) rfl) hS ?_
  simp only [Act.put, n1, n2, n3]
  refine gsem 4 (some 22) (.pointer (some ⟨h.b, 0, none⟩)) rfl (by kernel_rfl) (by kernel_rfl) (by kernel_rfl) (fun _ _ _ h => h) (by kernel_rfl) (by kernel_rfl) (fun _ _ => by kernel_rfl) hS ?_
  simp only [Act.put, n1, n2, n3]
  refine gsem 5 (some 23) (.pointer (some ⟨h.b, 0, none⟩)) rfl (by kernel_rfl) (by kernel_rfl) (by kernel_rfl) (fun _ _ _ h => h) (by kernel_rfl) (by kernel_rfl) (fun _ _ => by kernel_rfl) hS ?_
  simp only [Act.put, n1, n2, n3]
  refine gsem 6 (some 24) (.pointer (some ⟨h.b, 3, none⟩)) rfl (by kernel_rfl) (by kernel_rfl) (by kernel_rfl) (fun _ _ _ h => h) (by kernel_rfl) (by kernel_rfl) (fun _ _ => by kernel_rfl) hS ?_
  simp only [Act.put, n1, n2, n3]
  refine gsem 7 (some 25) (.int .i64 h.depth) rfl (by kernel_rfl) (by kernel_rfl) (by kernel_rfl) (fun _ _ _ h => h) (by kernel_rfl) (by kernel_rfl) (fun X hX => ex_load1 3 Tryz.isAgg3 rfl rfl ((Sy.hp hX 0 rfl).blk) rfl) hS ?_
  simp only [Act.put, n1, n2, n3]
  refine gsem 8 (some 26) (.bool false) rfl (by kernel_rfl) (by kernel_rfl) (by kernel_rfl) (fun _ _ _ h => h) (by kernel_rfl) (by kernel_rfl) (fun X hX => ex_eqNo rfl rfl rfl hd) hS ?_
  simp only [Act.put, n1, n2, n3]
  refine wpAnyH_done (by kernel_rfl) ?_ _
  try simp only [Act.put, n1, n2, n3]
  replace SS := hide hS
  go_wp2_with (first | go_skip | ((with_reducible show wpList _ _ _ _ _ _); first | (refine rd (by rfl) (ex_load1 3 Tryz.isAgg3 rfl rfl (((unhide SS).hp 0 rfl).blk) rfl) ?_; simp only [Act.put, n1, n2, n3]) | (refine rd (by rfl) (ex_addE h rfl rfl rfl hE) ?_; simp only [Act.put, n1, n2, n3]) | ((refine stH (h := h.less) (vs := [.int .i64 (h.ent + 1)]) (h.inn) 0 3 (by rfl) rfl rfl rfl rfl (by simp [Value.oneCell']) sz_i (unhide SS) rfl (by simp) rfl rfl rfl (by simp [cput, hcs, HP.less, HP.inn, HP.out]) ?_); intro X2 S2; replace SS := hide S2; clear S2; simp only [Act.put, n1, n2, n3])))
  have HI := (unhide SS).hp 0 rfl
  refine (at_h h.inn j q _ HI hj hl).mono ?_
  rintro _ _ ⟨rfl, rfl⟩
  have HO := hide (HI.ob (j := j) (o := q) hj).1
  go_wp2_with (first | go_skip | ((with_reducible show wpList _ _ _ _ _ _); first | (refine rd (by rfl) (ex_load1 85 Tryz.isAgg85 rfl rfl (unhide HO) rfl) ?_; simp only [Act.put, n1, n2, n3])))
  go_ret2
  exact ⟨rfl, HP.To.end H (unhide SS) rfl⟩
set_option maxRecDepth 100000 in
theorem leave_d (h : HP) (u : FrameMode) (w : World) (H : h.Is w) (hF : 0 ≤ h.ent ∧ h.ent ≤ 100000001) : CallsD Tryz.prog 48 #[.pointer (some ⟨h.b, 0, none⟩)] u w fun e u' w' => u' = u ∧ (e = .returned (.tuple #[]) ∧ h.To h.out w w') := by
  have SS := hide H.start
  go_enter_d Tryz.func48, Tryz.ntmps48
  go_wp2_with (first | go_skip | ((with_reducible show wpList _ _ _ _ _ _); first | (refine rd (by rfl) (ex_load1 3 Tryz.isAgg3 rfl rfl (((unhide SS).hp 0 rfl).blk) rfl) ?_; simp only [Act.put, n1, n2, n3]) | (refine rd (by rfl) (ex_subE h rfl rfl rfl hF) ?_; simp only [Act.put, n1, n2, n3]) | ((refine stH (vs := [.int .i64 (h.ent - 1)]) (h.out) 0 3 (by rfl) rfl rfl rfl rfl (by simp [Value.oneCell']) sz_i (unhide SS) rfl (by simp) rfl rfl rfl (by simp [cput, hcs, HP.less, HP.inn, HP.out]) ?_); intro X1 S1; replace SS := hide S1; clear S1; simp only [Act.put, n1, n2, n3])))
  go_end0
  exact ⟨rfl, HP.To.end H (unhide SS) rfl⟩
