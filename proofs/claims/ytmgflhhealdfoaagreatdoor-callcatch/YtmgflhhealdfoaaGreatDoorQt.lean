import Derived.Test.YtmgflhhealdfoaaGreatDoorQs
set_option linter.all false
namespace Go.Proofs.YtmgflhhealdfoaaGreatDoor
section
open Go Go.Proofs Go.RowKit FM
/-- As Kp, and in block b lies some descriptor. -/
def Kr (w : World) (b : Nat) (l : List (Nat × PB)) (X : World) : Prop := ∃ r, Kp w X ((b, .D r) :: l)
theorem Kr.on {w X X1 : World} {b : Nat} {l : List (Nat × PB)} (h : Kr w b l X) (hb : Below X.heap.size X X1) : Kr w b l X1 := by
  obtain ⟨r, hr⟩ := h
  exact ⟨r, hr.on hb⟩
theorem Kp.of3 {w X : World} {p p2 p3 : PB} (h : Lie w X [p, p2, p3]) : Kp w X [(w.heap.size + 2, p3), (w.heap.size, p), (w.heap.size + 1, p2)] :=
  ⟨h.below, fun q hq => by
    have hs := h.size
    simp at hs hq
    rcases hq with rfl | rfl | rfl
    · exact ⟨Nat.le_add_right _ _, by show w.heap.size + 2 < X.heap.size; omega, h.holds.2.2.1⟩
    · exact ⟨Nat.le_refl _, by show w.heap.size < X.heap.size; omega, h.holds.1⟩
    · exact ⟨Nat.le_succ _, by show w.heap.size + 1 < X.heap.size; omega, h.holds.2.1⟩, by simp⟩
section
variable {md : Region.Mode} {ops : Array Oper} {Q : Exit → Act → World → Prop} {w0 w : World} {l : List (Nat × PB)} {rb : Nat} {fuel : Nat} {listed : Array Bool} {a : Act} {o : Oper}
theorem rtake (i : Nat) (dst : Option Tmp) (v : Value) (hi : ops[i]? = some o) (hs : Region.noSelect ops = true) (hf : Region.free md ops listed i = true) (hr : (Region.ready md ops listed).contains i = true)
    (hQ : ∀ c a w, Q (.panic c) (a.put dst v) w → Q (.panic c) a w) (hd : o.dst = dst) (hy : YieldsIf Tryz.prog ops (Kr w0 rb l) o v a)
    (hS : Kr w0 rb l w) (h : wpAnyH Tryz.prog md ops Q (Kr w0 rb l) fuel (listed.setIfInBounds i true) (a.put dst v) w) : wpAnyH Tryz.prog md ops Q (Kr w0 rb l) (fuel + 1) listed a w := by
  subst hd
  exact wpAnyH_take hi hs hf hr hQ hy hS h
theorem rcall (i : Nat) (dst : Option Tmp) {f : FuncId} {args : Array Value} {V : Value} (hi : ops[i]? = some o) (hr : Region.ready md ops listed = [i]) (hd : o.dst = dst) (hw : Region.wanted o (yielded ops a.tmps) = true)
    (he : (execOp a.eval o).run Tryz.prog w = .ok (.enter f args) w) (hC : Calls Tryz.prog f args w fun e w' => e = .returned V ∧ Below w.heap.size w w') (hS : Kr w0 rb l w)
    (h : ∀ X, Kr w0 rb l X → wpAnyH Tryz.prog md ops Q (Kr w0 rb l) fuel (listed.setIfInBounds i true) (a.put dst V) X) : wpAnyH Tryz.prog md ops Q (Kr w0 rb l) (fuel + 1) listed a w := by
  subst hd
  refine wpAnyH_ready hr (by simp) (AllReadyH.cons hi (fun K hK => ?_) AllReadyH.nil)
  rw [if_pos hw]
  unfold Oper.wp
  rw [he, Oper.upon_enter]
  refine hC.mono ?_
  rintro _ X ⟨rfl, hb⟩
  exact hK.out _ _ (hS.on hb) (fun hX => h X hX)
theorem rstore (i : Nat) {x y : Operand} {u : DD} (hi : ops[i]? = some o) (hr : Region.ready md ops listed = [i]) (hd : o.dst = none) (hw : Region.wanted o (yielded ops a.tmps) = true)
    (ho : o.op = .store 38 x y) (hx : a.eval x = .pointer (some ⟨rb, 0, none⟩)) (hy : a.eval y = u.agg) (hS : Kr w0 rb l w)
    (h : ∀ X, Kp w0 X ((rb, .D u) :: l) → wpAnyH Tryz.prog md ops Q (Kr w0 rb l) fuel (listed.setIfInBounds i true) (a.put none undef) X) : wpAnyH Tryz.prog md ops Q (Kr w0 rb l) (fuel + 1) listed a w := by
  obtain ⟨r, hK0⟩ := hS
  rw [← hd] at h
  refine wpAnyH_ready hr (by simp) (AllReadyH.cons hi (fun K hK => ?_) AllReadyH.nil)
  rw [if_pos hw]
  have hP := hK0.put 0 (u := u) rfl
  exact wp_store_mid 38 x y ho _ 0 u.cs.toArray hx hy (Lies.there (hK0.get 0 rfl)) info38 (by simp [DD.cs, Value.oneCell']) (hK.out _ _ ⟨u, hP⟩ (fun _ => h _ hP))
theorem ry24v (j : Nat) {x : Operand} {b : Nat} {d : DD} (hw : Region.wanted o (yielded ops a.tmps) = true) (ho : o.op = .load 24 x) (hx : a.eval x = .pointer (some ⟨b, 0, none⟩)) (hl : l[j]? = some (b, .D d)) : YieldsIf Tryz.prog ops (Kr w0 rb l) o d.v.agg a := by
  obtain ⟨t, hu, hd⟩ := isrow24
  exact yieldsIf_load_mid hw 24 x ho b 0 hx d.v.cs t (fun X ⟨_, hX⟩ => Lies.rv (hX.get (j + 1) hl)) hu hd info24'
theorem ry24g (j : Nat) {x : Operand} {b : Nat} {d : DD} (hw : Region.wanted o (yielded ops a.tmps) = true) (ho : o.op = .load 24 x) (hx : a.eval x = .pointer (some ⟨b, 5, none⟩)) (hl : l[j]? = some (b, .D d)) : YieldsIf Tryz.prog ops (Kr w0 rb l) o d.g.agg a := by
  obtain ⟨t, hu, hd⟩ := isrow24
  exact yieldsIf_load_mid hw 24 x ho b 5 hx d.g.cs t (fun X ⟨_, hX⟩ => Lies.rg (hX.get (j + 1) hl)) hu hd info24'
theorem ry24s (j : Nat) {x : Operand} {b : Nat} {d : DD} (hw : Region.wanted o (yielded ops a.tmps) = true) (ho : o.op = .load 24 x) (hx : a.eval x = .pointer (some ⟨b, 10, none⟩)) (hl : l[j]? = some (b, .D d)) : YieldsIf Tryz.prog ops (Kr w0 rb l) o d.s.agg a := by
  obtain ⟨t, hu, hd⟩ := isrow24
  exact yieldsIf_load_mid hw 24 x ho b 10 hx d.s.cs t (fun X ⟨_, hX⟩ => Lies.rs (hX.get (j + 1) hl)) hu hd info24'
theorem ry25w (j : Nat) {x : Operand} {b : Nat} {d : DD} (hw : Region.wanted o (yielded ops a.tmps) = true) (ho : o.op = .load 36 x) (hx : a.eval x = .pointer (some ⟨b, 15, none⟩)) (hl : l[j]? = some (b, .D d)) : YieldsIf Tryz.prog ops (Kr w0 rb l) o (.int .i64 d.w) a := by
  refine Or.inl ⟨hw, fun X hX => ?_⟩
  obtain ⟨_, hX⟩ := hX
  obtain ⟨-, h0, h1, h2, h3, h4, h5, h6, h7, h8, h9, h10, h11, h12, h13, h14, h15, h16, h17⟩ := hX.get (j + 1) hl
  unfold execOp
  simp only [ho, hx]
  simp [go_sem, h15, Tryz.isAgg36]
theorem ry25e (j : Nat) {x : Operand} {b : Nat} {d : DD} (hw : Region.wanted o (yielded ops a.tmps) = true) (ho : o.op = .load 36 x) (hx : a.eval x = .pointer (some ⟨b, 16, none⟩)) (hl : l[j]? = some (b, .D d)) : YieldsIf Tryz.prog ops (Kr w0 rb l) o (.int .i64 d.e) a := by
  refine Or.inl ⟨hw, fun X hX => ?_⟩
  obtain ⟨_, hX⟩ := hX
  obtain ⟨-, h0, h1, h2, h3, h4, h5, h6, h7, h8, h9, h10, h11, h12, h13, h14, h15, h16, h17⟩ := hX.get (j + 1) hl
  unfold execOp
  simp only [ho, hx]
  simp [go_sem, h16, Tryz.isAgg36]
theorem ry25c (j : Nat) {x : Operand} {b : Nat} {d : DD} (hw : Region.wanted o (yielded ops a.tmps) = true) (ho : o.op = .load 36 x) (hx : a.eval x = .pointer (some ⟨b, 17, none⟩)) (hl : l[j]? = some (b, .D d)) : YieldsIf Tryz.prog ops (Kr w0 rb l) o (.int .i64 d.c) a := by
  refine Or.inl ⟨hw, fun X hX => ?_⟩
  obtain ⟨_, hX⟩ := hX
  obtain ⟨-, h0, h1, h2, h3, h4, h5, h6, h7, h8, h9, h10, h11, h12, h13, h14, h15, h16, h17⟩ := hX.get (j + 1) hl
  unfold execOp
  simp only [ho, hx]
  simp [go_sem, h17, Tryz.isAgg36]
end
theorem triOr_B (t a : Int) (w : World) : Calls Tryz.prog 144 #[.int .i64 t, .int .i64 a] w fun e w' => e = .returned (.int .i64 (orT t a)) ∧ Below w.heap.size w w' :=
  (triOr_T t a w).mono fun e w' h => ⟨h.1, by rw [h.2]; exact Below.refl _ _⟩
set_option maxHeartbeats 2000000 in
set_option maxRecDepth 100000 in
theorem become_any (n d : DD) (hn : FD n) (hd : FD d) (w : World) : Calls Tryz.prog 137 #[n.agg, d.agg] w fun e w' => e = .returned (becV n d).agg ∧ Below w.heap.size w w' := by
  have HTu := hide (turns_any n d hn hd)
  have HF := hide (filled_any ⟨d.v, d.g, d.s, d.w, orT d.e n.e, orT d.c n.c⟩ ⟨hd.1, hd.2.1, hd.2.2⟩)
  have HOv := hide (valueOr_any d.v n.v hd.1)
  have HOg := hide (valueOr_any d.g n.g hd.2.1)
  have HOs := hide (valueOr_any d.s n.s hd.2.2)
  clear hn hd
  have LL := hide (Lie.new3 w (.D n) (.D d) (.D zeroD))
  unfold becV
  generalize turnV n d = tu at *
  generalize fillV ⟨d.v, d.g, d.s, d.w, orT d.e n.e, orT d.c n.c⟩ = fd at *
  have hq0 : n.agg = .agg #[.int .i64 n.v.k, .bool n.v.b, .float .f64 n.v.x, .string n.v.s, .int .i64 n.v.i, .int .i64 n.g.k, .bool n.g.b, .float .f64 n.g.x, .string n.g.s, .int .i64 n.g.i, .int .i64 n.s.k, .bool n.s.b, .float .f64 n.s.x, .string n.s.s, .int .i64 n.s.i, .int .i64 n.w, .int .i64 n.e, .int .i64 n.c] := rfl
  have hq1 : d.agg = .agg #[.int .i64 d.v.k, .bool d.v.b, .float .f64 d.v.x, .string d.v.s, .int .i64 d.v.i, .int .i64 d.g.k, .bool d.g.b, .float .f64 d.g.x, .string d.g.s, .int .i64 d.g.i, .int .i64 d.s.k, .bool d.s.b, .float .f64 d.s.x, .string d.s.s, .int .i64 d.s.i, .int .i64 d.w, .int .i64 d.e, .int .i64 d.c] := rfl
  rw [hq0, hq1]
  clear hq0 hq1
  go_enter Tryz.func137, Tryz.ntmps137
  go_wp2_with (first | go_skip | ((with_reducible apply load27); (case ho => rfl); (case hw => rfl); (case hx => rfl); (case hc => first | exact (unhide LL).one | exact (unhide LL).two | exact (unhide LL).three); simp only [Act.put, List.setIfInBounds_toArray, List.set_cons_succ, List.set_cons_zero]))
  refine (unhide HTu _).mono ?_
  rintro _ w11 ⟨rfl, hb⟩
  replace LL := hide ((unhide LL).on hb)
  clear hb
  cases tu
  · go_wp2_with fail
    refine wp_region_held_drew (P := Tryz.prog) (S := Kr w (w.heap.size + 2) [(w.heap.size, .D n), (w.heap.size + 1, .D d)]) (by kernel_rfl) (Kr.on ⟨zeroD, (Kp.of3 (unhide LL)).drew⟩ (Below.refl _ _)) (fun hS0 => ?_)
    refine rtake 0 (some 22) (.pointer (some ⟨w.heap.size + 1, 0, none⟩)) rfl (by kernel_rfl) (by kernel_rfl) (by kernel_rfl) (fun _ _ _ h => h) (by kernel_rfl) (Or.inl ⟨by kernel_rfl, fun _ _ => by kernel_rfl⟩) hS0 ?_
    simp only [Act.put, List.setIfInBounds_toArray, List.set_cons_succ, List.set_cons_zero]
    refine rtake 1 (some 23) d.v.agg rfl (by kernel_rfl) (by kernel_rfl) (by kernel_rfl) (fun _ _ _ h => h) (by kernel_rfl) (ry24v 1 (x := .tmp 22) (b := w.heap.size + 1) (d := d) (by kernel_rfl) (by kernel_rfl) (by kernel_rfl) rfl) hS0 ?_
    simp only [Act.put, List.setIfInBounds_toArray, List.set_cons_succ, List.set_cons_zero]
    refine rtake 2 (some 24) (.pointer (some ⟨w.heap.size, 0, none⟩)) rfl (by kernel_rfl) (by kernel_rfl) (by kernel_rfl) (fun _ _ _ h => h) (by kernel_rfl) (Or.inl ⟨by kernel_rfl, fun _ _ => by kernel_rfl⟩) hS0 ?_
    simp only [Act.put, List.setIfInBounds_toArray, List.set_cons_succ, List.set_cons_zero]
    refine rtake 3 (some 25) n.v.agg rfl (by kernel_rfl) (by kernel_rfl) (by kernel_rfl) (fun _ _ _ h => h) (by kernel_rfl) (ry24v 0 (x := .tmp 24) (b := w.heap.size) (d := n) (by kernel_rfl) (by kernel_rfl) (by kernel_rfl) rfl) hS0 ?_
    simp only [Act.put, List.setIfInBounds_toArray, List.set_cons_succ, List.set_cons_zero]
    refine rtake 5 (some 27) (.pointer (some ⟨w.heap.size + 1, 5, none⟩)) rfl (by kernel_rfl) (by kernel_rfl) (by kernel_rfl) (fun _ _ _ h => h) (by kernel_rfl) (Or.inl ⟨by kernel_rfl, fun _ _ => by kernel_rfl⟩) hS0 ?_
    simp only [Act.put, List.setIfInBounds_toArray, List.set_cons_succ, List.set_cons_zero]
    refine rtake 6 (some 28) d.g.agg rfl (by kernel_rfl) (by kernel_rfl) (by kernel_rfl) (fun _ _ _ h => h) (by kernel_rfl) (ry24g 1 (x := .tmp 27) (b := w.heap.size + 1) (d := d) (by kernel_rfl) (by kernel_rfl) (by kernel_rfl) rfl) hS0 ?_
    simp only [Act.put, List.setIfInBounds_toArray, List.set_cons_succ, List.set_cons_zero]
    refine rtake 7 (some 29) (.pointer (some ⟨w.heap.size, 5, none⟩)) rfl (by kernel_rfl) (by kernel_rfl) (by kernel_rfl) (fun _ _ _ h => h) (by kernel_rfl) (Or.inl ⟨by kernel_rfl, fun _ _ => by kernel_rfl⟩) hS0 ?_
    simp only [Act.put, List.setIfInBounds_toArray, List.set_cons_succ, List.set_cons_zero]
    refine rtake 8 (some 30) n.g.agg rfl (by kernel_rfl) (by kernel_rfl) (by kernel_rfl) (fun _ _ _ h => h) (by kernel_rfl) (ry24g 0 (x := .tmp 29) (b := w.heap.size) (d := n) (by kernel_rfl) (by kernel_rfl) (by kernel_rfl) rfl) hS0 ?_
    simp only [Act.put, List.setIfInBounds_toArray, List.set_cons_succ, List.set_cons_zero]
    refine rtake 10 (some 32) (.pointer (some ⟨w.heap.size + 1, 10, none⟩)) rfl (by kernel_rfl) (by kernel_rfl) (by kernel_rfl) (fun _ _ _ h => h) (by kernel_rfl) (Or.inl ⟨by kernel_rfl, fun _ _ => by kernel_rfl⟩) hS0 ?_
    simp only [Act.put, List.setIfInBounds_toArray, List.set_cons_succ, List.set_cons_zero]
    refine rtake 11 (some 33) d.s.agg rfl (by kernel_rfl) (by kernel_rfl) (by kernel_rfl) (fun _ _ _ h => h) (by kernel_rfl) (ry24s 1 (x := .tmp 32) (b := w.heap.size + 1) (d := d) (by kernel_rfl) (by kernel_rfl) (by kernel_rfl) rfl) hS0 ?_
    simp only [Act.put, List.setIfInBounds_toArray, List.set_cons_succ, List.set_cons_zero]
    refine rtake 12 (some 34) (.pointer (some ⟨w.heap.size, 10, none⟩)) rfl (by kernel_rfl) (by kernel_rfl) (by kernel_rfl) (fun _ _ _ h => h) (by kernel_rfl) (Or.inl ⟨by kernel_rfl, fun _ _ => by kernel_rfl⟩) hS0 ?_
    simp only [Act.put, List.setIfInBounds_toArray, List.set_cons_succ, List.set_cons_zero]
    refine rtake 13 (some 35) n.s.agg rfl (by kernel_rfl) (by kernel_rfl) (by kernel_rfl) (fun _ _ _ h => h) (by kernel_rfl) (ry24s 0 (x := .tmp 34) (b := w.heap.size) (d := n) (by kernel_rfl) (by kernel_rfl) (by kernel_rfl) rfl) hS0 ?_
    simp only [Act.put, List.setIfInBounds_toArray, List.set_cons_succ, List.set_cons_zero]
    refine rtake 15 (some 37) (.pointer (some ⟨w.heap.size + 1, 15, none⟩)) rfl (by kernel_rfl) (by kernel_rfl) (by kernel_rfl) (fun _ _ _ h => h) (by kernel_rfl) (Or.inl ⟨by kernel_rfl, fun _ _ => by kernel_rfl⟩) hS0 ?_
    simp only [Act.put, List.setIfInBounds_toArray, List.set_cons_succ, List.set_cons_zero]
    refine rtake 16 (some 38) (.int .i64 d.w) rfl (by kernel_rfl) (by kernel_rfl) (by kernel_rfl) (fun _ _ _ h => h) (by kernel_rfl) (ry25w 1 (x := .tmp 37) (b := w.heap.size + 1) (d := d) (by kernel_rfl) (by kernel_rfl) (by kernel_rfl) rfl) hS0 ?_
    simp only [Act.put, List.setIfInBounds_toArray, List.set_cons_succ, List.set_cons_zero]
    refine rtake 17 (some 39) (.pointer (some ⟨w.heap.size, 15, none⟩)) rfl (by kernel_rfl) (by kernel_rfl) (by kernel_rfl) (fun _ _ _ h => h) (by kernel_rfl) (Or.inl ⟨by kernel_rfl, fun _ _ => by kernel_rfl⟩) hS0 ?_
    simp only [Act.put, List.setIfInBounds_toArray, List.set_cons_succ, List.set_cons_zero]
    refine rtake 18 (some 40) (.int .i64 n.w) rfl (by kernel_rfl) (by kernel_rfl) (by kernel_rfl) (fun _ _ _ h => h) (by kernel_rfl) (ry25w 0 (x := .tmp 39) (b := w.heap.size) (d := n) (by kernel_rfl) (by kernel_rfl) (by kernel_rfl) rfl) hS0 ?_
    simp only [Act.put, List.setIfInBounds_toArray, List.set_cons_succ, List.set_cons_zero]
    refine rtake 20 (some 42) (.pointer (some ⟨w.heap.size + 1, 16, none⟩)) rfl (by kernel_rfl) (by kernel_rfl) (by kernel_rfl) (fun _ _ _ h => h) (by kernel_rfl) (Or.inl ⟨by kernel_rfl, fun _ _ => by kernel_rfl⟩) hS0 ?_
    simp only [Act.put, List.setIfInBounds_toArray, List.set_cons_succ, List.set_cons_zero]
    refine rtake 21 (some 43) (.int .i64 d.e) rfl (by kernel_rfl) (by kernel_rfl) (by kernel_rfl) (fun _ _ _ h => h) (by kernel_rfl) (ry25e 1 (x := .tmp 42) (b := w.heap.size + 1) (d := d) (by kernel_rfl) (by kernel_rfl) (by kernel_rfl) rfl) hS0 ?_
    simp only [Act.put, List.setIfInBounds_toArray, List.set_cons_succ, List.set_cons_zero]
    refine rtake 22 (some 44) (.pointer (some ⟨w.heap.size, 16, none⟩)) rfl (by kernel_rfl) (by kernel_rfl) (by kernel_rfl) (fun _ _ _ h => h) (by kernel_rfl) (Or.inl ⟨by kernel_rfl, fun _ _ => by kernel_rfl⟩) hS0 ?_
    simp only [Act.put, List.setIfInBounds_toArray, List.set_cons_succ, List.set_cons_zero]
    refine rtake 23 (some 45) (.int .i64 n.e) rfl (by kernel_rfl) (by kernel_rfl) (by kernel_rfl) (fun _ _ _ h => h) (by kernel_rfl) (ry25e 0 (x := .tmp 44) (b := w.heap.size) (d := n) (by kernel_rfl) (by kernel_rfl) (by kernel_rfl) rfl) hS0 ?_
    simp only [Act.put, List.setIfInBounds_toArray, List.set_cons_succ, List.set_cons_zero]
    refine rtake 25 (some 47) (.pointer (some ⟨w.heap.size + 1, 17, none⟩)) rfl (by kernel_rfl) (by kernel_rfl) (by kernel_rfl) (fun _ _ _ h => h) (by kernel_rfl) (Or.inl ⟨by kernel_rfl, fun _ _ => by kernel_rfl⟩) hS0 ?_
    simp only [Act.put, List.setIfInBounds_toArray, List.set_cons_succ, List.set_cons_zero]
    refine rtake 26 (some 48) (.int .i64 d.c) rfl (by kernel_rfl) (by kernel_rfl) (by kernel_rfl) (fun _ _ _ h => h) (by kernel_rfl) (ry25c 1 (x := .tmp 47) (b := w.heap.size + 1) (d := d) (by kernel_rfl) (by kernel_rfl) (by kernel_rfl) rfl) hS0 ?_
    simp only [Act.put, List.setIfInBounds_toArray, List.set_cons_succ, List.set_cons_zero]
    refine rtake 27 (some 49) (.pointer (some ⟨w.heap.size, 17, none⟩)) rfl (by kernel_rfl) (by kernel_rfl) (by kernel_rfl) (fun _ _ _ h => h) (by kernel_rfl) (Or.inl ⟨by kernel_rfl, fun _ _ => by kernel_rfl⟩) hS0 ?_
    simp only [Act.put, List.setIfInBounds_toArray, List.set_cons_succ, List.set_cons_zero]
    refine rtake 28 (some 50) (.int .i64 n.c) rfl (by kernel_rfl) (by kernel_rfl) (by kernel_rfl) (fun _ _ _ h => h) (by kernel_rfl) (ry25c 0 (x := .tmp 49) (b := w.heap.size) (d := n) (by kernel_rfl) (by kernel_rfl) (by kernel_rfl) rfl) hS0 ?_
    simp only [Act.put, List.setIfInBounds_toArray, List.set_cons_succ, List.set_cons_zero]
    refine rcall 4 (some 26) rfl (by kernel_rfl) (by kernel_rfl) (by kernel_rfl) (by kernel_rfl) (unhide HOv _) hS0 (fun w1 hS1 => ?_)
    clear hS0
    simp only [Act.put, List.setIfInBounds_toArray, List.set_cons_succ, List.set_cons_zero]
    refine rcall 9 (some 31) rfl (by kernel_rfl) (by kernel_rfl) (by kernel_rfl) (by kernel_rfl) (unhide HOg _) hS1 (fun w2 hS2 => ?_)
    clear hS1
    simp only [Act.put, List.setIfInBounds_toArray, List.set_cons_succ, List.set_cons_zero]
    refine rcall 14 (some 36) rfl (by kernel_rfl) (by kernel_rfl) (by kernel_rfl) (by kernel_rfl) (unhide HOs _) hS2 (fun w3 hS3 => ?_)
    clear hS2
    simp only [Act.put, List.setIfInBounds_toArray, List.set_cons_succ, List.set_cons_zero]
    refine rcall 19 (some 41) rfl (by kernel_rfl) (by kernel_rfl) (by kernel_rfl) (by kernel_rfl) (triOr_B d.w n.w _) hS3 (fun w4 hS4 => ?_)
    clear hS3
    simp only [Act.put, List.setIfInBounds_toArray, List.set_cons_succ, List.set_cons_zero]
    refine rcall 24 (some 46) rfl (by kernel_rfl) (by kernel_rfl) (by kernel_rfl) (by kernel_rfl) (triOr_B d.e n.e _) hS4 (fun w5 hS5 => ?_)
    clear hS4
    simp only [Act.put, List.setIfInBounds_toArray, List.set_cons_succ, List.set_cons_zero]
    refine rcall 29 (some 51) rfl (by kernel_rfl) (by kernel_rfl) (by kernel_rfl) (by kernel_rfl) (triOr_B d.c n.c _) hS5 (fun w6 hS6 => ?_)
    clear hS5
    simp only [Act.put, List.setIfInBounds_toArray, List.set_cons_succ, List.set_cons_zero]
    refine rtake 30 (some 52) (DD.agg ⟨orV d.v n.v, orV d.g n.g, orV d.s n.s, orT d.w n.w, orT d.e n.e, orT d.c n.c⟩) rfl (by kernel_rfl) (by kernel_rfl) (by kernel_rfl) (fun _ _ _ h => h) (by kernel_rfl) (Or.inl ⟨by kernel_rfl, fun _ _ => by kernel_rfl⟩) hS6 ?_
    simp only [Act.put, List.setIfInBounds_toArray, List.set_cons_succ, List.set_cons_zero]
    refine rstore 31 (x := .tmp 4) (y := .tmp 52) (u := ⟨orV d.v n.v, orV d.g n.g, orV d.s n.s, orT d.w n.w, orT d.e n.e, orT d.c n.c⟩) rfl (by kernel_rfl) (by kernel_rfl) (by kernel_rfl) (by kernel_rfl) (by kernel_rfl) (by kernel_rfl) hS6 (fun w7 hK => ?_)
    clear hS6
    try simp only [Act.put, List.setIfInBounds_toArray, List.set_cons_succ, List.set_cons_zero]
    refine wpAnyH_done (by kernel_rfl) ?_ _
    go_wp2_with fail
    refine ret27 rfl rfl rfl (hK.get 0 rfl) ?_
    exact ⟨rfl, hK.below⟩
  · go_wp2_with (first | go_skip | ((with_reducible apply load27); (case ho => rfl); (case hw => rfl); (case hx => rfl); (case hc => first | exact (unhide LL).one | exact (unhide LL).two | exact (unhide LL).three); simp only [Act.put, List.setIfInBounds_toArray, List.set_cons_succ, List.set_cons_zero]) | ((with_reducible apply load25e); (case ho => rfl); (case hw => rfl); (case hx => rfl); (case hc => first | exact (unhide LL).one | exact (unhide LL).two | exact (unhide LL).three); simp only [Act.put, List.setIfInBounds_toArray, List.set_cons_succ, List.set_cons_zero]) | ((with_reducible apply load25c); (case ho => rfl); (case hw => rfl); (case hx => rfl); (case hc => first | exact (unhide LL).one | exact (unhide LL).two | exact (unhide LL).three); simp only [Act.put, List.setIfInBounds_toArray, List.set_cons_succ, List.set_cons_zero]) | ((with_reducible apply store25e 1); (case ho => rfl); (case hw => rfl); (case hL => exact unhide LL); (case hi => rfl); (case hx => rfl); (case hy => rfl); (intro X LX; simp only [Act.put, List.setIfInBounds_toArray, List.set_cons_succ, List.set_cons_zero]; replace LL := hide LX; clear LX)) | ((with_reducible apply store25c 1); (case ho => rfl); (case hw => rfl); (case hL => exact unhide LL); (case hi => rfl); (case hx => rfl); (case hy => rfl); (intro X LX; simp only [Act.put, List.setIfInBounds_toArray, List.set_cons_succ, List.set_cons_zero]; replace LL := hide LX; clear LX)) | ((with_reducible apply store27 2); (case ho => rfl); (case hw => rfl); (case hL => exact unhide LL); (case hi => rfl); (case hx => rfl); (case hy => rfl); (intro X LX; simp only [Act.put, List.setIfInBounds_toArray, List.set_cons_succ, List.set_cons_zero]; replace LL := hide LX; clear LX)) | (go_at_call 144; refine (triOr_T _ _ _).mono ?_; rintro _ _ ⟨rfl, rfl⟩))
    refine (unhide HF _).mono ?_
    rintro _ w11 ⟨rfl, hb⟩
    replace LL := hide ((unhide LL).on hb)
    clear hb
    go_wp2_with (first | go_skip | ((with_reducible apply load27); (case ho => rfl); (case hw => rfl); (case hx => rfl); (case hc => first | exact (unhide LL).one | exact (unhide LL).two | exact (unhide LL).three); simp only [Act.put, List.setIfInBounds_toArray, List.set_cons_succ, List.set_cons_zero]) | ((with_reducible apply load25e); (case ho => rfl); (case hw => rfl); (case hx => rfl); (case hc => first | exact (unhide LL).one | exact (unhide LL).two | exact (unhide LL).three); simp only [Act.put, List.setIfInBounds_toArray, List.set_cons_succ, List.set_cons_zero]) | ((with_reducible apply load25c); (case ho => rfl); (case hw => rfl); (case hx => rfl); (case hc => first | exact (unhide LL).one | exact (unhide LL).two | exact (unhide LL).three); simp only [Act.put, List.setIfInBounds_toArray, List.set_cons_succ, List.set_cons_zero]) | ((with_reducible apply store25e 1); (case ho => rfl); (case hw => rfl); (case hL => exact unhide LL); (case hi => rfl); (case hx => rfl); (case hy => rfl); (intro X LX; simp only [Act.put, List.setIfInBounds_toArray, List.set_cons_succ, List.set_cons_zero]; replace LL := hide LX; clear LX)) | ((with_reducible apply store25c 1); (case ho => rfl); (case hw => rfl); (case hL => exact unhide LL); (case hi => rfl); (case hx => rfl); (case hy => rfl); (intro X LX; simp only [Act.put, List.setIfInBounds_toArray, List.set_cons_succ, List.set_cons_zero]; replace LL := hide LX; clear LX)) | ((with_reducible apply store27 2); (case ho => rfl); (case hw => rfl); (case hL => exact unhide LL); (case hi => rfl); (case hx => rfl); (case hy => rfl); (intro X LX; simp only [Act.put, List.setIfInBounds_toArray, List.set_cons_succ, List.set_cons_zero]; replace LL := hide LX; clear LX)) | (go_at_call 144; refine (triOr_T _ _ _).mono ?_; rintro _ _ ⟨rfl, rfl⟩))
    refine ret27 rfl rfl rfl (unhide LL).three ?_
    exact ⟨rfl, (unhide LL).below⟩
