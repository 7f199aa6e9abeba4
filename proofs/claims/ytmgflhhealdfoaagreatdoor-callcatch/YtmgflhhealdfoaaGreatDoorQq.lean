import Derived.Test.YtmgflhhealdfoaaGreatDoorQp
set_option linter.all false
namespace Go.Proofs.YtmgflhhealdfoaaGreatDoor
section
open Go Go.Proofs Go.RowKit FM
theorem good_str {v : VV} (h : v.good = true) : v.s.size ≤ 1048576 := by
  have e0 : ByteArray.empty.size ≤ 1048576 := by decide
  obtain ⟨k, b, x, s, i⟩ := v
  rcases good_cases h with ⟨_, _, _, rfl, _⟩ | ⟨_, _, _, rfl, _⟩ | ⟨_, _, rfl, _⟩ | ⟨_, _, rfl, _⟩ | ⟨_, _, _, _, hf⟩ | ⟨_, _, _, rfl, _⟩ | ⟨_, _, _, rfl, _⟩
  · exact e0
  · exact e0
  · exact e0
  · exact e0
  · unfold fitV at hf
    simp at hf
    exact hf.1
  · exact e0
  · exact e0
theorem none_str {v : VV} (h : thV v = false) : v.s.size ≤ 1048576 := by
  unfold thV at h
  simp only [Bool.not_eq_false', Bool.and_eq_true] at h
  rw [empty_of h.1.2]
  decide
theorem sound_str {d : DD} (h : soundV d = true) : d.v.s.size ≤ 1048576 := by
  unfold soundV at h
  simp only [Bool.and_eq_true, Bool.or_eq_true, Bool.not_eq_true'] at h
  rcases h.1.1.1.1.1 with h | h
  · exact none_str h
  · exact good_str h
theorem kind_sound {d : DD} (h : ¬ kindV d = 0) : soundV d = true := by
  unfold kindV at h
  cases hs : soundV d
  · rw [hs] at h
    exact absurd rfl h
  · rfl
theorem or_str {v : VV} (h : v.s.size ≤ 1048576) : (orV v undV).s.size ≤ 1048576 := by
  unfold orV
  cases thV v
  · show undV.s.size ≤ 1048576
    decide
  · exact h
theorem fill_str {d : DD} (h : d.v.s.size ≤ 1048576) : (fillV d).v.s.size ≤ 1048576 := by
  unfold fillV
  cases shapeV d == 3
  · exact or_str h
  · exact h
/-- Blocks that are ours hold what they held, and what was there ahead is as it was. -/
structure Kp (w X : World) (l : List (Nat × PB)) : Prop where
  below : Below w.heap.size w X
  all : ∀ q ∈ l, w.heap.size ≤ q.1 ∧ q.1 < X.heap.size ∧ q.2.lies X q.1
  nd : (l.map (·.1)).Nodup
theorem Kp.of2 {w X : World} {p p2 : PB} (h : Lie w X [p, p2]) : Kp w X [(w.heap.size, p), (w.heap.size + 1, p2)] :=
  ⟨h.below, fun q hq => by
    have hs := h.size
    simp at hs hq
    rcases hq with rfl | rfl
    · exact ⟨Nat.le_refl _, by show w.heap.size < X.heap.size; omega, h.holds.1⟩
    · exact ⟨Nat.le_succ _, by show w.heap.size + 1 < X.heap.size; omega, h.holds.2.1⟩, by simp⟩
theorem Kp.on {w X X1 : World} {l : List (Nat × PB)} (h : Kp w X l) (hb : Below X.heap.size X X1) : Kp w X1 l :=
  ⟨h.below.trans (hb.mono h.below.size), fun q hq => ⟨(h.all q hq).1, Nat.lt_of_lt_of_le (h.all q hq).2.1 hb.size, PB.on (h.all q hq).2.2 (h.all q hq).2.1 hb⟩, h.nd⟩
theorem Kp.drew {w X : World} {l : List (Nat × PB)} (h : Kp w X l) : Kp w X.drew l := ⟨h.below.drew, fun q hq => ⟨(h.all q hq).1, (h.all q hq).2.1, PB.drew (h.all q hq).2.2⟩, h.nd⟩
theorem Kp.get {w X : World} {l : List (Nat × PB)} (h : Kp w X l) (i : Nat) {b : Nat} {p : PB} (hi : l[i]? = some (b, p)) : p.lies X b := (h.all _ (List.mem_of_getElem? hi)).2.2
theorem Kp.put {w X : World} {l : List (Nat × PB)} (h : Kp w X l) (i : Nat) {b : Nat} {d u : DD} (hi : l[i]? = some (b, .D d)) : Kp w (X.setCells b 0 u.cs) (l.set i (b, .D u)) := by
  have hb := h.all _ (List.mem_of_getElem? hi)
  have hlt := (List.getElem?_eq_some_iff.1 hi).1
  refine ⟨below_setCellsD (W := X) hb.1 _ _ _ h.below, fun q hq => ?_, ?_⟩
  · rw [size_setCellsD]
    obtain ⟨j, hj, rfl⟩ := List.mem_iff_getElem.1 hq
    by_cases hij : i = j
    · subst hij
      rw [List.getElem_set_self]
      exact ⟨hb.1, hb.2.1, Lies.setD hb.2.2⟩
    · rw [List.getElem_set_ne hij]
      have hj' : j < l.length := by simpa using hj
      have ha := h.all _ (List.getElem_mem hj')
      refine ⟨ha.1, ha.2.1, PB.far ha.2.2 ?_⟩
      intro e
      have hn := List.pairwise_iff_getElem.1 h.nd
      have hie : l[i].1 = b := by
        have := (List.getElem?_eq_some_iff.1 hi).2
        rw [this]
      rcases Nat.lt_or_gt_of_ne hij with hlt2 | hlt2
      · exact hn i j (by simpa using hlt) (by simpa using hj') hlt2 (by simp [hie, e])
      · exact hn j i (by simpa using hj') (by simpa using hlt) hlt2 (by simp [hie, e])
  · rw [List.map_set]
    have : (l.map (·.1)).set i b = l.map (·.1) := by
      refine List.ext_getElem? fun j => ?_
      by_cases hij : i = j
      · subst hij
        have := (List.getElem?_eq_some_iff.1 hi).2
        simp [hlt, this]
      · rw [List.getElem?_set_ne hij]
    rw [this]
    exact h.nd

/-! Regions that draw their order, under Kp. -/
section
variable {md : Region.Mode} {ops : Array Oper} {Q : Exit → Act → World → Prop} {w0 w : World} {l : List (Nat × PB)} {fuel : Nat} {listed : Array Bool} {a : Act} {o : Oper}
theorem hload27 (i j : Nat) (dst : Option Tmp) {x : Operand} {b : Nat} {d : DD} (hi : ops[i]? = some o) (hs : Region.noSelect ops = true) (hf : Region.free md ops listed i = true) (hr : (Region.ready md ops listed).contains i = true)
    (hQ : ∀ c a w, Q (.panic c) (a.put dst d.agg) w → Q (.panic c) a w) (hd : o.dst = dst) (hw : Region.wanted o (yielded ops a.tmps) = true) (ho : o.op = .load 38 x) (hx : a.eval x = .pointer (some ⟨b, 0, none⟩)) (hl : l[j]? = some (b, .D d))
    (hS : Kp w0 w l) (h : wpAnyH Tryz.prog md ops Q (fun X => Kp w0 X l) fuel (listed.setIfInBounds i true) (a.put dst d.agg) w) : wpAnyH Tryz.prog md ops Q (fun X => Kp w0 X l) (fuel + 1) listed a w := by
  subst hd
  obtain ⟨t, hu, hd⟩ := isrow27
  exact wpAnyH_take hi hs hf hr hQ (yieldsIf_load_mid hw 38 x ho b 0 hx d.cs t (fun X hX => Lies.range (hX.get j hl)) hu hd info38) hS h
theorem hpure (i : Nat) (dst : Option Tmp) (v : Value) (hi : ops[i]? = some o) (hs : Region.noSelect ops = true) (hf : Region.free md ops listed i = true) (hr : (Region.ready md ops listed).contains i = true)
    (hQ : ∀ c a w, Q (.panic c) (a.put dst v) w → Q (.panic c) a w) (hd : o.dst = dst) (hw : Region.wanted o (yielded ops a.tmps) = true) (hy : ∀ w, (execOp a.eval o).run Tryz.prog w = .ok (.value v) w)
    (hS : Kp w0 w l) (h : wpAnyH Tryz.prog md ops Q (fun X => Kp w0 X l) fuel (listed.setIfInBounds i true) (a.put dst v) w) : wpAnyH Tryz.prog md ops Q (fun X => Kp w0 X l) (fuel + 1) listed a w := by
  subst hd
  exact wpAnyH_take hi hs hf hr hQ (Or.inl ⟨hw, fun X _ => hy X⟩) hS h
theorem hskip (i : Nat) (dst : Option Tmp) (hi : ops[i]? = some o) (hs : Region.noSelect ops = true) (hf : Region.free md ops listed i = true) (hr : (Region.ready md ops listed).contains i = true)
    (hQ : ∀ c a w, Q (.panic c) (a.put dst undef) w → Q (.panic c) a w) (hd : o.dst = dst) (hw : Region.wanted o (yielded ops a.tmps) = false)
    (hS : Kp w0 w l) (h : wpAnyH Tryz.prog md ops Q (fun X => Kp w0 X l) fuel (listed.setIfInBounds i true) (a.put dst undef) w) : wpAnyH Tryz.prog md ops Q (fun X => Kp w0 X l) (fuel + 1) listed a w := by
  subst hd
  exact wpAnyH_take hi hs hf hr hQ (Or.inr ⟨hw, rfl⟩) hS h
theorem hcall (i : Nat) (dst : Option Tmp) {f : FuncId} {args : Array Value} {V : Value} (hi : ops[i]? = some o) (hr : Region.ready md ops listed = [i]) (hd : o.dst = dst) (hw : Region.wanted o (yielded ops a.tmps) = true)
    (he : (execOp a.eval o).run Tryz.prog w = .ok (.enter f args) w) (hC : Calls Tryz.prog f args w fun e w' => e = .returned V ∧ Below w.heap.size w w') (hS : Kp w0 w l)
    (h : ∀ X, Kp w0 X l → wpAnyH Tryz.prog md ops Q (fun X => Kp w0 X l) fuel (listed.setIfInBounds i true) (a.put dst V) X) : wpAnyH Tryz.prog md ops Q (fun X => Kp w0 X l) (fuel + 1) listed a w := by
  subst hd
  refine wpAnyH_ready hr (by simp) (AllReadyH.cons hi (fun K hK => ?_) AllReadyH.nil)
  rw [if_pos hw]
  unfold Oper.wp
  rw [he, Oper.upon_enter]
  refine hC.mono ?_
  rintro _ X ⟨rfl, hb⟩
  exact hK.out _ _ (hS.on hb) (fun hX => h X hX)
end
