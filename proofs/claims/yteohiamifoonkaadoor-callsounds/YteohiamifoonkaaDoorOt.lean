import Derived.Test.YteohiamifoonkaaDoorOc
import Derived.Test.YteohiamifoonkaaDoorVo
import Derived.Deep.Slices
import Derived.SizedLaws
namespace Go.Proofs.YteohiamifoonkaaDoor
open Go.WideShapes Go.ChangeShapes Go Go.Proofs Go.Maps Go.RowKit FM
set_option linter.unusedSimpArgs false
set_option linter.unusedVariables false
set_option maxHeartbeats 1000000
theorem cellsOf44 : Tryd.prog.cellsOf 32 = 18 := by kernel_rfl
theorem cellsOf42 : Tryd.prog.cellsOf 30 = 1 := by kernel_rfl
theorem cellsOf41 : Tryd.prog.cellsOf 29 = 2 := by kernel_rfl
section
variable {H : Type} {enc : TypeId × Value → H} {W : World} {base : Nat} {sp : Nat → Bool} {held : Bool} {m : Nat} {t : TypeId} {x : DataW H × List MemPlace}
set_option maxRecDepth 100000 in
theorem cells_desc' {f0 f1 f2 f3 f4 f5 : Field} {cs : List Value} (hs : Tryd.prog.underlying t = some (.struct #[f0, f1, f2, f3, f4, f5])) (hC : Tryd.prog.cellsOf t = 18)
    (o0 : f0.offset = 0) (o1 : f1.offset = 5) (o2 : f2.offset = 10) (o3 : f3.offset = 15) (o4 : f4.offset = 16) (o5 : f5.offset = 17)
    (t0 : f0.type = 27) (t1 : f1.type = 27) (t2 : f2.type = 27) (t3 : f3.type = 30) (t4 : f4.type = 30) (t5 : f5.type = 30)
    (h : DataW.trod enc Tryd.prog W base sp held m t cs = some x) : ∃ d : DD, cs = d.cs ∧ FD d := by
  obtain ⟨xs, n, _, rfl, hl, hlen, hf⟩ := DataW.trod_struct hs h
  rw [hC] at hl
  match cs, hl with
  | [c0, c1, c2, c3, c4, c5, c6, c7, c8, c9, c10, c11, c12, c13, c14, c15, c16, c17], _ =>
    have h0 := hf 0 _ rfl
    have h1 := hf 1 _ rfl
    have h2 := hf 2 _ rfl
    have h3 := hf 3 _ rfl
    have h4 := hf 4 _ rfl
    have h5 := hf 5 _ rfl
    simp [t0, t1, t2, t3, t4, t5, o0, o1, o2, o3, o4, o5, cellsOf24, cellsOf42] at h0 h1 h2 h3 h4 h5 hlen
    have g : ∀ j, j < 6 → ∃ y, xs[j]? = some y := fun j hj => ⟨_, List.getElem?_eq_getElem (by omega)⟩
    obtain ⟨y0, e0⟩ := g 0 (by omega)
    obtain ⟨y1, e1⟩ := g 1 (by omega)
    obtain ⟨y2, e2⟩ := g 2 (by omega)
    obtain ⟨y3, e3⟩ := g 3 (by omega)
    obtain ⟨y4, e4⟩ := g 4 (by omega)
    obtain ⟨y5, e5⟩ := g 5 (by omega)
    rw [e0] at h0
    rw [e1] at h1
    rw [e2] at h2
    rw [e3] at h3
    rw [e4] at h4
    rw [e5] at h5
    obtain ⟨v, q0, x0, z0, -⟩ := cells_value h0
    obtain ⟨g, q1, x1, -⟩ := cells_value h1
    obtain ⟨s, q2, x2, -⟩ := cells_value h2
    obtain ⟨a, q3, -⟩ := cell_int Tryd.underlying30 h3
    obtain ⟨e, q4, -⟩ := cell_int Tryd.underlying30 h4
    obtain ⟨c, q5, -⟩ := cell_int Tryd.underlying30 h5
    simp only [List.cons.injEq] at q0 q1 q2
    obtain ⟨rfl, rfl, rfl, rfl, rfl, -⟩ := q0
    obtain ⟨rfl, rfl, rfl, rfl, rfl, -⟩ := q1
    obtain ⟨rfl, rfl, rfl, rfl, rfl, -⟩ := q2
    subst q3 q4 q5
    exact ⟨⟨v, g, s, a, e, c⟩, rfl, x0, x1, x2⟩
set_option maxRecDepth 100000 in
theorem cells_desc {cs : List Value} (h : DataW.trod enc Tryd.prog W base sp held m 32 cs = some x) : ∃ d : DD, cs = d.cs ∧ FD d :=
  cells_desc' Tryd.underlying32 cellsOf44 rfl rfl rfl rfl rfl rfl rfl rfl rfl rfl rfl rfl h
set_option maxRecDepth 100000 in
theorem cells_key' {f0 f1 : Field} {cs : List Value} (hs : Tryd.prog.underlying t = some (.struct #[f0, f1])) (hC : Tryd.prog.cellsOf t = 2) (o0 : f0.offset = 0) (o1 : f1.offset = 1) (t0 : f0.type = 9) (t1 : f1.type = 3)
    (h : DataW.trod enc Tryd.prog W base sp held m t cs = some x) : ∃ k : KK, cs = k.cs ∧ OkK k := by
  obtain ⟨xs, n, _, rfl, hl, hlen, hf⟩ := DataW.trod_struct hs h
  rw [hC] at hl
  match cs, hl with
  | [c0, c1], _ =>
    have h0 := hf 0 _ rfl
    have h1 := hf 1 _ rfl
    simp [t0, t1, o0, o1, cellsOf9, cellsOf3] at h0 h1 hlen
    have g : ∀ j, j < 2 → ∃ y, xs[j]? = some y := fun j hj => ⟨_, List.getElem?_eq_getElem (by omega)⟩
    obtain ⟨y0, e0⟩ := g 0 (by omega)
    obtain ⟨y1, e1⟩ := g 1 (by omega)
    rw [e0] at h0
    rw [e1] at h1
    obtain ⟨s, rfl, hs1, -⟩ := cell_string Tryd.underlying9 h0
    obtain ⟨n, rfl, hn1, -⟩ := cell_int Tryd.underlying3 h1
    exact ⟨⟨s, n⟩, rfl, hs1, hn1⟩
set_option maxRecDepth 100000 in
theorem cells_key {cs : List Value} (h : DataW.trod enc Tryd.prog W base sp held m 29 cs = some x) : ∃ k : KK, cs = k.cs ∧ OkK k :=
  cells_key' Tryd.underlying29 cellsOf41 rfl rfl rfl rfl h
end
theorem add_plain (b o i : Nat) : (Addr.add ⟨b, o, none⟩ i) = ⟨b, o + i, none⟩ := by
  unfold Addr.add
  by_cases h : i = 0
  · subst h; simp
  · simp [h]
theorem cell_spot' {w : World} {b o : Nat} {sp : Option Nat} {v : Value} (h : w.cell? ⟨b, o, sp⟩ = some v) : sp = none ∧ b < w.heap.size := by
  constructor
  · cases sp with
    | none => rfl
    | some s =>
      simp only [World.cell?] at h
      split at h <;> simp at h
  · rcases Nat.lt_or_ge b w.heap.size with h' | h'
    · exact h'
    · simp [World.cell?, Array.getElem?_eq_none h'] at h
/-- Rows of equal length, opened one by one. -/
theorem rows_of {α : Type} {f : α → List Value} {k : Nat} (hk : ∀ a, (f a).length = k) (h0 : 0 < k) {Pr : α → Prop} {W : World} {a : Addr} {n : Nat} (each : ∀ i, i < n → ∃ u : α, Pr u ∧ W.cells? 0 (a.add (i * k)) k = some (f u)) :
    ∃ l : List α, l.length = n ∧ ∀ (j : Nat) (u : α), l[j]? = some u → Pr u ∧ ∃ b off, a = ⟨b, off, none⟩ ∧ b < W.heap.size ∧ W.rangeAt b (off + j * k) (f u) := by
  have mk : ∀ q, q ≤ n → ∃ l : List α, l.length = q ∧ ∀ (i : Nat) (u : α), l[i]? = some u → Pr u ∧ W.cells? 0 (a.add (i * k)) k = some (f u) := by
    intro q
    induction q with
    | zero => exact fun _ => ⟨[], rfl, fun i u hu => by simp at hu⟩
    | succ q ih =>
      intro hq
      obtain ⟨l, hl, hl2⟩ := ih (by omega)
      obtain ⟨u, hu2⟩ := each q (by omega)
      refine ⟨l ++ [u], by simp [hl], fun i u' hu' => ?_⟩
      rcases Nat.lt_or_ge i l.length with h1 | h1
      · rw [List.getElem?_append_left h1] at hu'
        exact hl2 i u' hu'
      · rw [List.getElem?_append_right h1] at hu'
        have h3 := (List.getElem?_eq_some_iff.1 hu').1
        have h4 : i = q := by simp at h3; omega
        subst h4
        rw [hl, Nat.sub_self] at hu'
        obtain rfl : u = u' := by simpa using hu'
        exact hu2
  obtain ⟨l, hll, hlc⟩ := mk n (Nat.le_refl _)
  refine ⟨l, hll, fun j u hu => ⟨(hlc j u hu).1, ?_⟩⟩
  have h1 := (World.cells?_some (hlc j u hu).2).2.2
  obtain ⟨b, off, sp⟩ := a
  have hl0 : 0 < l.length := Nat.lt_of_le_of_lt (Nat.zero_le _) (List.getElem?_eq_some_iff.1 hu).1
  have h00 := (World.cells?_some (hlc 0 l[0] (List.getElem?_eq_getElem hl0)).2).2.2 0 h0
  have e0 : (Addr.add (Addr.add ⟨b, off, sp⟩ (0 * k)) 0) = ⟨b, off, sp⟩ := by simp [Addr.add]
  have hlen : 0 < (f l[0]).length := by rw [hk]; exact h0
  rw [e0, List.getElem?_eq_getElem hlen] at h00
  obtain ⟨rfl, hb⟩ := cell_spot' h00
  refine ⟨b, off, rfl, hb, fun t v hv => ?_⟩
  have ht : t < k := by
    have := (List.getElem?_eq_some_iff.1 hv).1
    rwa [hk] at this
  have h2 := h1 t ht
  rw [add_plain, add_plain] at h2
  rw [h2]
  exact hv
section
variable {H : Type} {enc : TypeId × Value → H} {W : World} {m : Nat} {x : DataW H × List MemPlace}
theorem weights_all {P : Program} {e : TypeId} : ∀ {l : List (DataW H)} {d : DataW H}, d ∈ l → ∀ n ∈ d.weights P e, n ∈ DataW.weightsAll P e l
  | y :: l, d, hd, n, hn => by
    simp only [DataW.weightsAll, List.mem_append]
    rcases List.mem_cons.1 hd with rfl | hd
    · exact .inl hn
    · exact .inr (weights_all hd n hn)
end
end Go.Proofs.YteohiamifoonkaaDoor
