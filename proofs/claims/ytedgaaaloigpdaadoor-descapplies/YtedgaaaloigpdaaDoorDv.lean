import Derived.Test.YtedgaaaloigpdaaDoorDn
import Derived.Test.YtedgaaaloigpdaaDoorVo
namespace Go.Proofs.YtedgaaaloigpdaaDoor
open Go Go.Proofs Go.RowKit Go.ChangeShapes Go.WideShapes
set_option linter.unusedSimpArgs false
set_option linter.unusedVariables false
theorem cellsOf27 : Tryd.prog.cellsOf 27 = 18 := by kernel_rfl
theorem cellsOf25 : Tryd.prog.cellsOf 25 = 1 := by kernel_rfl
section
variable {H : Type} {enc : TypeId × Value → H} {P : Program} {W : World} {base : Nat} {sp : Nat → Bool} {held : Bool} {m : Nat} {t : TypeId} {x : DataW H × List MemPlace}
set_option maxRecDepth 100000 in
theorem cells_desc' {f0 f1 f2 f3 f4 f5 : Field} {cs : List Value} (hs : Tryd.prog.underlying t = some (.struct #[f0, f1, f2, f3, f4, f5])) (hC : Tryd.prog.cellsOf t = 18)
    (o0 : f0.offset = 0) (o1 : f1.offset = 5) (o2 : f2.offset = 10) (o3 : f3.offset = 15) (o4 : f4.offset = 16) (o5 : f5.offset = 17)
    (t0 : f0.type = 24) (t1 : f1.type = 24) (t2 : f2.type = 24) (t3 : f3.type = 25) (t4 : f4.type = 25) (t5 : f5.type = 25)
    (h : DataW.trod enc Tryd.prog W base sp held m t cs = some x) : ∃ d : DD, cs = d.cs ∧ FD d ∧ d.v.s.size ≤ maxLen := by
  obtain ⟨xs, n, _, rfl, hl, hlen, hf⟩ := DataW.trod_struct hs h
  rw [hC] at hl
  match cs, hl with
  | [c0, c1, c2, c3, c4, c5, c6, c7, c8, c9, c10, c11, c12, c13, c14, c15, c16, c17], _ =>
    have h0 := hf 0 _ rfl
    have h1 := hf 1 _ rfl
    have h2 := hf 2 _ rfl
    have h3 := hf 3 _ rfl
    have h4 := hf 4 _ rfl
    have h5 := hf 5 _ rfl
    simp [t0, t1, t2, t3, t4, t5, o0, o1, o2, o3, o4, o5, cellsOf24, cellsOf25] at h0 h1 h2 h3 h4 h5 hlen
    have g : ∀ j, j < 6 → ∃ y, xs[j]? = some y := fun j hj => ⟨_, List.getElem?_eq_getElem (by omega)⟩
    obtain ⟨y0, e0⟩ := g 0 (by omega)
    obtain ⟨y1, e1⟩ := g 1 (by omega)
    obtain ⟨y2, e2⟩ := g 2 (by omega)
    obtain ⟨y3, e3⟩ := g 3 (by omega)
    obtain ⟨y4, e4⟩ := g 4 (by omega)
    obtain ⟨y5, e5⟩ := g 5 (by omega)
    rw [e0] at h0
    rw [e1] at h1
    rw [e2] at h2
    rw [e3] at h3
    rw [e4] at h4
    rw [e5] at h5
    obtain ⟨v, q0, x0, z0, -⟩ := cells_value h0
    obtain ⟨g, q1, x1, -⟩ := cells_value h1
    obtain ⟨s, q2, x2, -⟩ := cells_value h2
    obtain ⟨a, q3, -⟩ := cell_int Tryd.underlying25 h3
    obtain ⟨e, q4, -⟩ := cell_int Tryd.underlying25 h4
    obtain ⟨c, q5, -⟩ := cell_int Tryd.underlying25 h5
    simp only [List.cons.injEq] at q0 q1 q2
    obtain ⟨rfl, rfl, rfl, rfl, rfl, -⟩ := q0
    obtain ⟨rfl, rfl, rfl, rfl, rfl, -⟩ := q1
    obtain ⟨rfl, rfl, rfl, rfl, rfl, -⟩ := q2
    subst q3 q4 q5
    exact ⟨⟨v, g, s, a, e, c⟩, rfl, ⟨x0, x1, x2⟩, z0⟩
end
set_option maxRecDepth 100000 in
theorem cells_desc {H : Type} {enc : TypeId × Value → H} {W : World} {base : Nat} {sp : Nat → Bool} {held : Bool} {m : Nat} {x : DataW H × List MemPlace} {cs : List Value} (h : DataW.trod enc Tryd.prog W base sp held m 27 cs = some x) : ∃ d : DD, cs = d.cs ∧ FD d ∧ d.v.s.size ≤ maxLen :=
  cells_desc' Tryd.underlying27 cellsOf27 rfl rfl rfl rfl rfl rfl rfl rfl rfl rfl rfl rfl h
set_option maxRecDepth 100000 in
theorem open_desc {H : Type} {enc : TypeId × Value → H} {W : World} {base : Nat} {sp : Nat → Bool} {held : Bool} {r : Reach} {b0 : Nat} {v : Value} {d : DataW H} {p : List MemPlace} (hv : Value.okWide Tryd.prog W r b0 27 v) (h : DataW.Trod enc Tryd.prog W base sp held 27 v d p) :
    ∃ u : DD, v = u.agg ∧ FD u := by
  obtain ⟨cs, rfl, hsz⟩ := okWide_struct Tryd.underlying27 hv
  obtain ⟨fuel, hf⟩ := h
  obtain ⟨u, hc, h1, -⟩ := cells_desc hf
  refine ⟨u, ?_, h1⟩
  have hc' : cs.toList = u.cs := hc
  have : cs = u.cs.toArray := Array.toList_inj.1 (by simpa using hc')
  rw [this]
  rfl
end Go.Proofs.YtedgaaaloigpdaaDoor
