import Derived.Test.YteohiamifoonkaaDoorCd
import Derived.Test.YteohiamifoonkaaDoorOt
namespace Go.Proofs.YteohiamifoonkaaDoor
open Go.WideShapes Go.ChangeShapes Go Go.Proofs Go.Maps Go.RowKit FM
set_option linter.unusedSimpArgs false
set_option linter.unusedVariables false
set_option maxHeartbeats 1000000
theorem cellsOfO : Tryd.prog.cellsOf 34 = 32 := by kernel_rfl
theorem bytesO : Tryd.prog.bytesOf 34 = 288 := by kernel_rfl
section
variable {H : Type} {enc : TypeId × Value → H} {W : World} {base : Nat} {sp : Nat → Bool} {held : Bool} {m : Nat} {x : DataW H × List MemPlace}
set_option maxHeartbeats 4000000 in
set_option maxRecDepth 100000 in
theorem cells_op {cs : List Value} (h : DataW.trod enc Tryd.prog W base sp held m 34 cs = some x) : ∃ o : OP, cs = o.cs ∧ OkO o := by
  obtain ⟨xs, n, _, rfl, hl, hlen, hf⟩ := DataW.trod_struct Tryd.underlying34 h
  rw [cellsOfO] at hl
  match cs, hl with
  | [c0, c1, c2, c3, c4, c5, c6, c7, c8, c9, c10, c11, c12, c13, c14, c15, c16, c17, c18, c19, c20, c21, c22, c23, c24, c25, c26, c27, c28, c29, c30, c31], _ =>
    have h0 := hf 0 _ rfl
    have h1 := hf 1 _ rfl
    have h2 := hf 2 _ rfl
    have h3 := hf 3 _ rfl
    have h4 := hf 4 _ rfl
    have h5 := hf 5 _ rfl
    have h6 := hf 6 _ rfl
    have h7 := hf 7 _ rfl
    have h8 := hf 8 _ rfl
    have h9 := hf 9 _ rfl
    simp [cellsOf3, cellsOf4, cellsOf24, cellsOf41, cellsOf44] at h0 h1 h2 h3 h4 h5 h6 h7 h8 h9 hlen
    have g : ∀ j, j < 10 → ∃ y, xs[j]? = some y := fun j hj => ⟨_, List.getElem?_eq_getElem (by omega)⟩
    obtain ⟨y0, e0⟩ := g 0 (by omega)
    rw [e0] at h0
    obtain ⟨y1, e1⟩ := g 1 (by omega)
    rw [e1] at h1
    obtain ⟨y2, e2⟩ := g 2 (by omega)
    rw [e2] at h2
    obtain ⟨y3, e3⟩ := g 3 (by omega)
    rw [e3] at h3
    obtain ⟨y4, e4⟩ := g 4 (by omega)
    rw [e4] at h4
    obtain ⟨y5, e5⟩ := g 5 (by omega)
    rw [e5] at h5
    obtain ⟨y6, e6⟩ := g 6 (by omega)
    rw [e6] at h6
    obtain ⟨y7, e7⟩ := g 7 (by omega)
    rw [e7] at h7
    obtain ⟨y8, e8⟩ := g 8 (by omega)
    rw [e8] at h8
    obtain ⟨y9, e9⟩ := g 9 (by omega)
    rw [e9] at h9
    obtain ⟨n0, rfl, -, -⟩ := cell_int Tryd.underlying3 h0
    obtain ⟨n1, rfl, -, -⟩ := cell_int Tryd.underlying3 h1
    obtain ⟨n2, rfl, -, -⟩ := cell_int Tryd.underlying3 h2
    obtain ⟨n3, rfl, -, -⟩ := cell_int Tryd.underlying3 h3
    obtain ⟨n4, rfl, -, -⟩ := cell_int Tryd.underlying3 h4
    obtain ⟨k, hk, -⟩ := cells_key h5
    obtain ⟨v, hv, hx64, -⟩ := cells_value h6
    obtain ⟨d, hd, hfd⟩ := cells_desc h7
    obtain ⟨f, rfl, -⟩ := cell_bool Tryd.underlying4 h8
    obtain ⟨q, rfl, -⟩ := cell_bool Tryd.underlying4 h9
    refine ⟨⟨n0, n1, n2, n3, n4, k, v, d, f, q⟩, ?_, hfd, hx64⟩
    show [Value.int .i64 n0, .int .i64 n1, .int .i64 n2, .int .i64 n3, .int .i64 n4] ++ [c5, c6] ++ [c7, c8, c9, c10, c11] ++ [c12, c13, c14, c15, c16, c17, c18, c19, c20, c21, c22, c23, c24, c25, c26, c27, c28, c29] ++ [.bool f, .bool q] = [Value.int .i64 n0, .int .i64 n1, .int .i64 n2, .int .i64 n3, .int .i64 n4] ++ k.cs ++ v.cs ++ d.cs ++ [.bool f, .bool q]
    have hv2 : [c7, c8, c9, c10, c11] = v.cs := hv
    rw [hk, hv2, hd]
end
theorem open_rowO {H : Type} {enc : TypeId × Value → H} {W : World} {v : Value} {d : DataW H} {p : List MemPlace} {A : Option Addr} {n cap : Nat} (hv : v = .slice A n cap) (h : DataW.Trod enc Tryd.prog W 0 (fun _ => true) true 22 v d p) : ∃ l : List OP, n = l.length ∧ ReadsO W A l := by
  subst hv
  obtain ⟨fuel, hf⟩ := h
  rcases Go.Deep.open_slice Tryd.underlying22 hf with ⟨hcs, hx⟩ | ⟨a, len, cap', mm, k, D, Pl, hcs, _, hl, hm, hme, hx, hel⟩
  · simp [Value.cells] at hcs
    obtain ⟨rfl, rfl, rfl⟩ := hcs
    exact ⟨[], rfl, fun j u hu => by simp at hu⟩
  · simp [Value.cells] at hcs
    obtain ⟨rfl, rfl, rfl⟩ := hcs
    have hme' : n ≤ mm := by
      simp at hme
      omega
    have each : ∀ i, i < n → ∃ u : OP, OkO u ∧ W.cells? 0 (a.add (i * 32)) 32 = some u.cs := by
      intro i hi
      obtain ⟨cs', h1, h2⟩ := hel i (by omega)
      obtain ⟨u, rfl, hu⟩ := cells_op h2
      rw [cellsOfO] at h1
      exact ⟨u, hu, h1⟩
    obtain ⟨l, hll, hlr⟩ := rows_of ocs_length (by omega) each
    refine ⟨l, hll.symm, fun j o ho => ?_⟩
    obtain ⟨h1, b, off, rfl, h7, h8⟩ := hlr j o ho
    exact ⟨h1, b, off, rfl, h7, h8⟩
end Go.Proofs.YteohiamifoonkaaDoor
