import Derived.Test.YtcflglloopgieaaGreatDoorQe

/-! Dp -/
namespace Go.Proofs.YtcflglloopgieaaGreatDoor
open Go Go.Proofs Go.RowKit FM
set_option linter.unusedSimpArgs false
set_option linter.unusedVariables false
/-- Blocks that are ours hold what they held, and what was there ahead is as it was. -/
structure Kp (w X : World) (l : List (Nat × PB)) : Prop where
  below : Below w.heap.size w X
  all : ∀ q ∈ l, w.heap.size ≤ q.1 ∧ q.1 < X.heap.size ∧ q.2.lies X q.1
  nd : (l.map (·.1)).Nodup
theorem Kp.of2 {w X : World} {p p2 : PB} (h : Lie w X [p, p2]) : Kp w X [(w.heap.size, p), (w.heap.size + 1, p2)] :=
  ⟨h.below, fun q hq => by
    have hs := h.size
    simp at hs hq
    rcases hq with rfl | rfl
    · exact ⟨Nat.le_refl _, by show w.heap.size < X.heap.size; omega, h.holds.1⟩
    · exact ⟨Nat.le_succ _, by show w.heap.size + 1 < X.heap.size; omega, h.holds.2.1⟩, by simp⟩
theorem Kp.on {w X X1 : World} {l : List (Nat × PB)} (h : Kp w X l) (hb : Below X.heap.size X X1) : Kp w X1 l :=
  ⟨h.below.trans (hb.mono h.below.size), fun q hq => ⟨(h.all q hq).1, Nat.lt_of_lt_of_le (h.all q hq).2.1 hb.size, PB.on (h.all q hq).2.2 (h.all q hq).2.1 hb⟩, h.nd⟩
theorem Kp.drew {w X : World} {l : List (Nat × PB)} (h : Kp w X l) : Kp w X.drew l := ⟨h.below.drew, fun q hq => ⟨(h.all q hq).1, (h.all q hq).2.1, PB.drew (h.all q hq).2.2⟩, h.nd⟩
theorem Kp.get {w X : World} {l : List (Nat × PB)} (h : Kp w X l) (i : Nat) {b : Nat} {p : PB} (hi : l[i]? = some (b, p)) : p.lies X b := (h.all _ (List.mem_of_getElem? hi)).2.2
/-! Regions that draw their order, under Kp. -/
section
variable {md : Region.Mode} {ops : Array Oper} {Q : Exit → Act → World → Prop} {w0 w : World} {l : List (Nat × PB)} {fuel : Nat} {listed : Array Bool} {a : Act} {o : Oper}
theorem hload27 (i j : Nat) (dst : Option Tmp) {x : Operand} {b : Nat} {d : DD} (hi : ops[i]? = some o) (hs : Region.noSelect ops = true) (hf : Region.free md ops listed i = true) (hr : (Region.ready md ops listed).contains i = true)
    (hQ : ∀ c a w, Q (.panic c) (a.put dst d.agg) w → Q (.panic c) a w) (hd : o.dst = dst) (hw : Region.wanted o (yielded ops a.tmps) = true) (ho : o.op = .load 59 x) (hx : a.eval x = .pointer (some ⟨b, 0, none⟩)) (hl : l[j]? = some (b, .D d))
    (hS : Kp w0 w l) (h : wpAnyH Tryz.prog md ops Q (fun X => Kp w0 X l) fuel (listed.setIfInBounds i true) (a.put dst d.agg) w) : wpAnyH Tryz.prog md ops Q (fun X => Kp w0 X l) (fuel + 1) listed a w := by
  subst hd
  obtain ⟨t, hu, hd⟩ := isrow27
  exact wpAnyH_take hi hs hf hr hQ (yieldsIf_load_mid hw 59 x ho b 0 hx d.cs t (fun X hX => Lies.range (hX.get j hl)) hu hd info59) hS h
theorem hpure (i : Nat) (dst : Option Tmp) (v : Value) (hi : ops[i]? = some o) (hs : Region.noSelect ops = true) (hf : Region.free md ops listed i = true) (hr : (Region.ready md ops listed).contains i = true)
    (hQ : ∀ c a w, Q (.panic c) (a.put dst v) w → Q (.panic c) a w) (hd : o.dst = dst) (hw : Region.wanted o (yielded ops a.tmps) = true) (hy : ∀ w, (execOp a.eval o).run Tryz.prog w = .ok (.value v) w)
    (hS : Kp w0 w l) (h : wpAnyH Tryz.prog md ops Q (fun X => Kp w0 X l) fuel (listed.setIfInBounds i true) (a.put dst v) w) : wpAnyH Tryz.prog md ops Q (fun X => Kp w0 X l) (fuel + 1) listed a w := by
  subst hd
  exact wpAnyH_take hi hs hf hr hQ (Or.inl ⟨hw, fun X _ => hy X⟩) hS h
theorem hskip (i : Nat) (dst : Option Tmp) (hi : ops[i]? = some o) (hs : Region.noSelect ops = true) (hf : Region.free md ops listed i = true) (hr : (Region.ready md ops listed).contains i = true)
    (hQ : ∀ c a w, Q (.panic c) (a.put dst undef) w → Q (.panic c) a w) (hd : o.dst = dst) (hw : Region.wanted o (yielded ops a.tmps) = false)
    (hS : Kp w0 w l) (h : wpAnyH Tryz.prog md ops Q (fun X => Kp w0 X l) fuel (listed.setIfInBounds i true) (a.put dst undef) w) : wpAnyH Tryz.prog md ops Q (fun X => Kp w0 X l) (fuel + 1) listed a w := by
  subst hd
  exact wpAnyH_take hi hs hf hr hQ (Or.inr ⟨hw, rfl⟩) hS h
theorem hcall (i : Nat) (dst : Option Tmp) {f : FuncId} {args : Array Value} {V : Value} (hi : ops[i]? = some o) (hr : Region.ready md ops listed = [i]) (hd : o.dst = dst) (hw : Region.wanted o (yielded ops a.tmps) = true)
    (he : (execOp a.eval o).run Tryz.prog w = .ok (.enter f args) w) (hC : Calls Tryz.prog f args w fun e w' => e = .returned V ∧ Below w.heap.size w w') (hS : Kp w0 w l)
    (h : ∀ X, Kp w0 X l → wpAnyH Tryz.prog md ops Q (fun X => Kp w0 X l) fuel (listed.setIfInBounds i true) (a.put dst V) X) : wpAnyH Tryz.prog md ops Q (fun X => Kp w0 X l) (fuel + 1) listed a w := by
  subst hd
  refine wpAnyH_ready hr (by simp) (AllReadyH.cons hi (fun K hK => ?_) AllReadyH.nil)
  rw [if_pos hw]
  unfold Oper.wp
  rw [he, Oper.upon_enter]
  refine hC.mono ?_
  rintro _ X ⟨rfl, hb⟩
  exact hK.out _ _ (hS.on hb) (fun hX => h X hX)
end
end Go.Proofs.YtcflglloopgieaaGreatDoor
