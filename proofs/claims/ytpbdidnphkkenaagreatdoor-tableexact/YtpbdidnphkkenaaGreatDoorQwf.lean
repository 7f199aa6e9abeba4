import Derived.Test.YtpbdidnphkkenaaGreatDoorQwe
import Derived.ProofKit
import Derived.OpenShut
import Derived.Deep.Slices
import Derived.Lib.SmallJoins

/-! Nk -/
namespace Go.Proofs.YtpbdidnphkkenaaGreatDoor
open Go Go.Proofs Go.RowKit Go.WideShapes Go.ChangeShapes
set_option linter.unusedSimpArgs false
set_option linter.unusedVariables false
theorem cellsOf36 : Tryz.prog.cellsOf 36 = 5 := by kernel_rfl
theorem cellsOf3 : Tryz.prog.cellsOf 3 = 1 := by kernel_rfl
theorem cellsOf4 : Tryz.prog.cellsOf 4 = 1 := by kernel_rfl
theorem cellsOf34 : Tryz.prog.cellsOf 34 = 1 := by kernel_rfl
theorem cellsOf9 : Tryz.prog.cellsOf 9 = 1 := by kernel_rfl
section
variable {H : Type} {enc : TypeId × Value → H} {P : Program} {W : World} {base : Nat} {sp : Nat → Bool} {held : Bool} {m : Nat} {c : Value} {x : DataW H × List MemPlace} {t : TypeId}
theorem cell_bool (hu : P.underlying t = some .bool) (h : DataW.trod enc P W base sp held m t [c] = some x) : ∃ b, c = .bool b ∧ x = (.lit (.bool b), []) := by
  cases m with
  | zero => simp [DataW.trod] at h
  | succ m =>
    unfold DataW.trod at h
    rw [hu] at h
    split at h <;> simp_all
theorem wf64 {b : Nat} (h : (Lit.float .f64 b).wf = true) : b < 2 ^ 64 := by
  unfold Lit.wf at h
  exact of_decide_eq_true h
theorem cell_float (hu : P.underlying t = some (.float .f64)) (h : DataW.trod enc P W base sp held m t [c] = some x) : ∃ b, c = .float .f64 b ∧ b < 2 ^ 64 ∧ x = (.lit (.float .f64 b), []) := by
  cases m with
  | zero => simp [DataW.trod] at h
  | succ m =>
    unfold DataW.trod at h
    rw [hu] at h
    split at h <;> simp_all
    rename_i e
    subst e
    exact wf64 h.1.2
theorem cell_string (hu : P.underlying t = some .string) (h : DataW.trod enc P W base sp held m t [c] = some x) : ∃ s, c = .string s ∧ s.size ≤ maxLen ∧ x = (.lit (.string s.data.toList), []) := by
  cases m with
  | zero => simp [DataW.trod] at h
  | succ m =>
    unfold DataW.trod at h
    rw [hu] at h
    split at h <;> simp_all
theorem cell_int (hu : P.underlying t = some (.int .i64)) (h : DataW.trod enc P W base sp held m t [c] = some x) : ∃ n, c = .int .i64 n ∧ (Lit.int .i64 n).wf = true ∧ x = (.lit (.int .i64 n), []) := by
  cases m with
  | zero => simp [DataW.trod] at h
  | succ m =>
    unfold DataW.trod at h
    rw [hu] at h
    split at h <;> simp_all
/-- Five cells that read as a value. -/
theorem cells_value' {f0 f1 f2 f3 f4 : Field} {cs : List Value} (hs : P.underlying t = some (.struct #[f0, f1, f2, f3, f4])) (hC : P.cellsOf t = 5)
    (o0 : f0.offset = 0) (o1 : f1.offset = 1) (o2 : f2.offset = 2) (o3 : f3.offset = 3) (o4 : f4.offset = 4)
    (u0 : P.underlying f0.type = some (.int .i64)) (u1 : P.underlying f1.type = some .bool) (u2 : P.underlying f2.type = some (.float .f64)) (u3 : P.underlying f3.type = some .string) (u4 : P.underlying f4.type = some (.int .i64))
    (s0 : P.cellsOf f0.type = 1) (s1 : P.cellsOf f1.type = 1) (s2 : P.cellsOf f2.type = 1) (s3 : P.cellsOf f3.type = 1) (s4 : P.cellsOf f4.type = 1)
    (h : DataW.trod enc P W base sp held m t cs = some x) :
    ∃ u : VV, cs = [.int .i64 u.k, .bool u.b, .float .f64 u.x, .string u.s, .int .i64 u.i] ∧ u.x < 2 ^ 64 ∧ u.s.size ≤ maxLen ∧ (Lit.int .i64 u.k).wf = true ∧ (Lit.int .i64 u.i).wf = true := by
  obtain ⟨xs, n, _, rfl, hl, hlen, hf⟩ := DataW.trod_struct hs h
  rw [hC] at hl
  match cs, hl with
  | [c0, c1, c2, c3, c4], _ =>
    have h0 := hf 0 _ rfl
    have h1 := hf 1 _ rfl
    have h2 := hf 2 _ rfl
    have h3 := hf 3 _ rfl
    have h4 := hf 4 _ rfl
    simp [s0, s1, s2, s3, s4, o0, o1, o2, o3, o4] at h0 h1 h2 h3 h4 hlen
    have g : ∀ j, j < 5 → ∃ y, xs[j]? = some y := fun j hj => ⟨_, List.getElem?_eq_getElem (by omega)⟩
    obtain ⟨y0, e0⟩ := g 0 (by omega)
    obtain ⟨y1, e1⟩ := g 1 (by omega)
    obtain ⟨y2, e2⟩ := g 2 (by omega)
    obtain ⟨y3, e3⟩ := g 3 (by omega)
    obtain ⟨y4, e4⟩ := g 4 (by omega)
    rw [e0] at h0
    rw [e1] at h1
    rw [e2] at h2
    rw [e3] at h3
    rw [e4] at h4
    obtain ⟨k, rfl, wk, -⟩ := cell_int u0 h0
    obtain ⟨b, rfl, -⟩ := cell_bool u1 h1
    obtain ⟨f, rfl, wf, -⟩ := cell_float u2 h2
    obtain ⟨s, rfl, ws, -⟩ := cell_string u3 h3
    obtain ⟨i, rfl, wi, -⟩ := cell_int u4 h4
    exact ⟨⟨k, b, f, s, i⟩, rfl, wf, ws, wk, wi⟩
end
set_option maxRecDepth 100000 in
theorem cells_value {H : Type} {enc : TypeId × Value → H} {W : World} {base : Nat} {sp : Nat → Bool} {held : Bool} {m : Nat} {x : DataW H × List MemPlace} {cs : List Value} (h : DataW.trod enc Tryz.prog W base sp held m 36 cs = some x) :
    ∃ u : VV, cs = [.int .i64 u.k, .bool u.b, .float .f64 u.x, .string u.s, .int .i64 u.i] ∧ u.x < 2 ^ 64 ∧ u.s.size ≤ maxLen ∧ (Lit.int .i64 u.k).wf = true ∧ (Lit.int .i64 u.i).wf = true :=
  cells_value' Tryz.underlying36 cellsOf36 rfl rfl rfl rfl rfl Tryz.underlying3 Tryz.underlying4 Tryz.underlying34 Tryz.underlying9 Tryz.underlying3 cellsOf3 cellsOf4 cellsOf34 cellsOf9 cellsOf3 h
set_option maxRecDepth 100000 in
theorem open_value {H : Type} {enc : TypeId × Value → H} {W : World} {base : Nat} {sp : Nat → Bool} {held : Bool} {r : Reach} {b0 : Nat} {v : Value} {d : DataW H} {p : List MemPlace} (hv : Value.okWide Tryz.prog W r b0 36 v) (h : DataW.Trod enc Tryz.prog W base sp held 36 v d p) :
    ∃ u : VV, v = u.agg ∧ u.x < 2 ^ 64 ∧ u.s.size ≤ maxLen ∧ (Lit.int .i64 u.k).wf = true ∧ (Lit.int .i64 u.i).wf = true := by
  obtain ⟨cs, rfl, hsz⟩ := okWide_struct Tryz.underlying36 hv
  obtain ⟨fuel, hf⟩ := h
  obtain ⟨u, hc, h1, h2, h3, h4⟩ := cells_value hf
  refine ⟨u, ?_, h1, h2, h3, h4⟩
  have hc' : cs.toList = [.int .i64 u.k, .bool u.b, .float .f64 u.x, .string u.s, .int .i64 u.i] := hc
  have : cs = #[.int .i64 u.k, .bool u.b, .float .f64 u.x, .string u.s, .int .i64 u.i] := Array.toList_inj.1 hc'
  rw [this]
  rfl
theorem cellsOf39 : Tryz.prog.cellsOf 39 = 18 := by kernel_rfl
theorem cellsOf37 : Tryz.prog.cellsOf 37 = 1 := by kernel_rfl
section
variable {H : Type} {enc : TypeId × Value → H} {P : Program} {W : World} {base : Nat} {sp : Nat → Bool} {held : Bool} {m : Nat} {t : TypeId} {x : DataW H × List MemPlace}
set_option maxRecDepth 100000 in
theorem cells_desc' {f0 f1 f2 f3 f4 f5 : Field} {cs : List Value} (hs : Tryz.prog.underlying t = some (.struct #[f0, f1, f2, f3, f4, f5])) (hC : Tryz.prog.cellsOf t = 18)
    (o0 : f0.offset = 0) (o1 : f1.offset = 5) (o2 : f2.offset = 10) (o3 : f3.offset = 15) (o4 : f4.offset = 16) (o5 : f5.offset = 17)
    (t0 : f0.type = 36) (t1 : f1.type = 36) (t2 : f2.type = 36) (t3 : f3.type = 37) (t4 : f4.type = 37) (t5 : f5.type = 37)
    (h : DataW.trod enc Tryz.prog W base sp held m t cs = some x) : ∃ d : DD, cs = d.cs := by
  obtain ⟨xs, n, _, rfl, hl, hlen, hf⟩ := DataW.trod_struct hs h
  rw [hC] at hl
  match cs, hl with
  | [c0, c1, c2, c3, c4, c5, c6, c7, c8, c9, c10, c11, c12, c13, c14, c15, c16, c17], _ =>
    have h0 := hf 0 _ rfl
    have h1 := hf 1 _ rfl
    have h2 := hf 2 _ rfl
    have h3 := hf 3 _ rfl
    have h4 := hf 4 _ rfl
    have h5 := hf 5 _ rfl
    simp [t0, t1, t2, t3, t4, t5, o0, o1, o2, o3, o4, o5, cellsOf36, cellsOf37] at h0 h1 h2 h3 h4 h5 hlen
    have g : ∀ j, j < 6 → ∃ y, xs[j]? = some y := fun j hj => ⟨_, List.getElem?_eq_getElem (by omega)⟩
    obtain ⟨y0, e0⟩ := g 0 (by omega)
    obtain ⟨y1, e1⟩ := g 1 (by omega)
    obtain ⟨y2, e2⟩ := g 2 (by omega)
    obtain ⟨y3, e3⟩ := g 3 (by omega)
    obtain ⟨y4, e4⟩ := g 4 (by omega)
    obtain ⟨y5, e5⟩ := g 5 (by omega)
    rw [e0] at h0
    rw [e1] at h1
    rw [e2] at h2
    rw [e3] at h3
    rw [e4] at h4
    rw [e5] at h5
    obtain ⟨v, q0, x0, z0, -⟩ := cells_value h0
    obtain ⟨g, q1, x1, -⟩ := cells_value h1
    obtain ⟨s, q2, x2, -⟩ := cells_value h2
    obtain ⟨a, q3, -⟩ := cell_int Tryz.underlying37 h3
    obtain ⟨e, q4, -⟩ := cell_int Tryz.underlying37 h4
    obtain ⟨c, q5, -⟩ := cell_int Tryz.underlying37 h5
    simp only [List.cons.injEq] at q0 q1 q2
    obtain ⟨rfl, rfl, rfl, rfl, rfl, -⟩ := q0
    obtain ⟨rfl, rfl, rfl, rfl, rfl, -⟩ := q1
    obtain ⟨rfl, rfl, rfl, rfl, rfl, -⟩ := q2
    subst q3 q4 q5
    exact ⟨⟨v, g, s, a, e, c⟩, rfl⟩
end
set_option maxRecDepth 100000 in
theorem cells_desc {H : Type} {enc : TypeId × Value → H} {W : World} {base : Nat} {sp : Nat → Bool} {held : Bool} {m : Nat} {x : DataW H × List MemPlace} {cs : List Value} (h : DataW.trod enc Tryz.prog W base sp held m 39 cs = some x) : ∃ d : DD, cs = d.cs :=
  cells_desc' Tryz.underlying39 cellsOf39 rfl rfl rfl rfl rfl rfl rfl rfl rfl rfl rfl rfl h
set_option maxRecDepth 100000 in
theorem open_desc {H : Type} {enc : TypeId × Value → H} {W : World} {base : Nat} {sp : Nat → Bool} {held : Bool} {r : Reach} {b0 : Nat} {v : Value} {d : DataW H} {p : List MemPlace} (hv : Value.okWide Tryz.prog W r b0 39 v) (h : DataW.Trod enc Tryz.prog W base sp held 39 v d p) :
    ∃ u : DD, v = u.agg := by
  obtain ⟨cs, rfl, hsz⟩ := okWide_struct Tryz.underlying39 hv
  obtain ⟨fuel, hf⟩ := h
  obtain ⟨u, hc⟩ := cells_desc hf
  refine ⟨u, ?_⟩
  have hc' : cs.toList = u.cs := hc
  have : cs = u.cs.toArray := Array.toList_inj.1 (by simpa using hc')
  rw [this]
  rfl
theorem cellsOf33 : Tryz.prog.cellsOf 33 = 2 := by kernel_rfl
section
variable {H : Type} {enc : TypeId × Value → H} {P : Program} {W : World} {base : Nat} {sp : Nat → Bool} {held : Bool} {m : Nat} {c : Value} {x : DataW H × List MemPlace} {t : TypeId}
set_option maxRecDepth 100000 in
theorem cells_key' {f0 f1 : Field} {cs : List Value} (hs : Tryz.prog.underlying t = some (.struct #[f0, f1])) (hC : Tryz.prog.cellsOf t = 2) (o0 : f0.offset = 0) (o1 : f1.offset = 1) (t0 : f0.type = 9) (t1 : f1.type = 3)
    (h : DataW.trod enc Tryz.prog W base sp held m t cs = some x) : ∃ k : KK, cs = k.cs ∧ OkK k := by
  obtain ⟨xs, n, _, rfl, hl, hlen, hf⟩ := DataW.trod_struct hs h
  rw [hC] at hl
  match cs, hl with
  | [c0, c1], _ =>
    have h0 := hf 0 _ rfl
    have h1 := hf 1 _ rfl
    simp [t0, t1, o0, o1, cellsOf9, cellsOf3] at h0 h1 hlen
    have g : ∀ j, j < 2 → ∃ y, xs[j]? = some y := fun j hj => ⟨_, List.getElem?_eq_getElem (by omega)⟩
    obtain ⟨y0, e0⟩ := g 0 (by omega)
    obtain ⟨y1, e1⟩ := g 1 (by omega)
    rw [e0] at h0
    rw [e1] at h1
    obtain ⟨s, rfl, hs1, -⟩ := cell_string Tryz.underlying9 h0
    obtain ⟨n, rfl, hn1, -⟩ := cell_int Tryz.underlying3 h1
    exact ⟨⟨s, n⟩, rfl, hs1, hn1⟩
end
set_option maxRecDepth 100000 in
theorem cells_key {H : Type} {enc : TypeId × Value → H} {W : World} {base : Nat} {sp : Nat → Bool} {held : Bool} {m : Nat} {x : DataW H × List MemPlace} {cs : List Value} (h : DataW.trod enc Tryz.prog W base sp held m 33 cs = some x) : ∃ k : KK, cs = k.cs ∧ OkK k :=
  cells_key' Tryz.underlying33 cellsOf33 rfl rfl rfl rfl h
set_option maxRecDepth 100000 in
theorem open_key {H : Type} {enc : TypeId × Value → H} {W : World} {base : Nat} {sp : Nat → Bool} {held : Bool} {r : Reach} {b0 : Nat} {v : Value} {d : DataW H} {p : List MemPlace} (hv : Value.okWide Tryz.prog W r b0 33 v) (h : DataW.Trod enc Tryz.prog W base sp held 33 v d p) :
    ∃ u : KK, v = u.agg ∧ OkK u := by
  obtain ⟨cs, rfl, hsz⟩ := okWide_struct Tryz.underlying33 hv
  obtain ⟨fuel, hf⟩ := h
  obtain ⟨u, hc, hok⟩ := cells_key hf
  refine ⟨u, ?_, hok⟩
  have hc' : cs.toList = u.cs := hc
  have : cs = u.cs.toArray := Array.toList_inj.1 (by simpa using hc')
  rw [this]
  rfl
end Go.Proofs.YtpbdidnphkkenaaGreatDoor

/-! Pj -/
namespace Go.Proofs.YtpbdidnphkkenaaGreatDoor
open Go Go.Proofs Go.RowKit Go.WideShapes Go.ChangeShapes
set_option linter.unusedSimpArgs false
set_option linter.unusedVariables false
theorem cellsOf41 : Tryz.prog.cellsOf 41 = 23 := by kernel_rfl
theorem cellsOf22 : Tryz.prog.cellsOf 22 = 1 := by kernel_rfl
section
variable {H : Type} {enc : TypeId × Value → H} {W : World} {base : Nat} {sp : Nat → Bool} {held : Bool} {m : Nat} {t : TypeId} {x : DataW H × List MemPlace}
set_option maxRecDepth 100000 in
theorem cells_act' {f0 f1 f2 f3 f4 : Field} {cs : List Value} (hs : Tryz.prog.underlying t = some (.struct #[f0, f1, f2, f3, f4])) (hC : Tryz.prog.cellsOf t = 23)
    (o0 : f0.offset = 0) (o1 : f1.offset = 1) (o2 : f2.offset = 3) (o3 : f3.offset = 21) (o4 : f4.offset = 22)
    (t0 : f0.type = 3) (t1 : f1.type = 33) (t2 : f2.type = 39) (t3 : f3.type = 3) (t4 : f4.type = 22)
    (h : DataW.trod enc Tryz.prog W base sp held m t cs = some x) : ∃ a : AA, cs = a.cs ∧ OkK a.k := by
  obtain ⟨xs, n, _, rfl, hl, hlen, hf⟩ := DataW.trod_struct hs h
  rw [hC] at hl
  match cs, hl with
  | [c0, c1, c2, c3, c4, c5, c6, c7, c8, c9, c10, c11, c12, c13, c14, c15, c16, c17, c18, c19, c20, c21, c22], _ =>
    have h0 := hf 0 _ rfl
    have h1 := hf 1 _ rfl
    have h2 := hf 2 _ rfl
    have h3 := hf 3 _ rfl
    simp [t0, t1, t2, t3, t4, o0, o1, o2, o3, o4, cellsOf3, cellsOf33, cellsOf39, cellsOf22] at h0 h1 h2 h3 hlen
    have g : ∀ j, j < 5 → ∃ y, xs[j]? = some y := fun j hj => ⟨_, List.getElem?_eq_getElem (by omega)⟩
    obtain ⟨y0, e0⟩ := g 0 (by omega)
    obtain ⟨y1, e1⟩ := g 1 (by omega)
    obtain ⟨y2, e2⟩ := g 2 (by omega)
    obtain ⟨y3, e3⟩ := g 3 (by omega)
    rw [e0] at h0
    rw [e1] at h1
    rw [e2] at h2
    rw [e3] at h3
    obtain ⟨kd, rfl, -, -⟩ := cell_int Tryz.underlying3 h0
    obtain ⟨k, hk, hok⟩ := cells_key h1
    obtain ⟨d, hd⟩ := cells_desc h2
    obtain ⟨z, rfl, -, -⟩ := cell_int Tryz.underlying3 h3
    refine ⟨⟨kd, k, d, z, c22⟩, ?_, hok⟩
    show _ = actCs kd k d z c22
    unfold actCs
    rw [← hk, ← hd]
    rfl
end
set_option maxRecDepth 100000 in
theorem cells_act {H : Type} {enc : TypeId × Value → H} {W : World} {base : Nat} {sp : Nat → Bool} {held : Bool} {m : Nat} {x : DataW H × List MemPlace} {cs : List Value} (h : DataW.trod enc Tryz.prog W base sp held m 41 cs = some x) : ∃ a : AA, cs = a.cs ∧ OkK a.k :=
  cells_act' Tryz.underlying41 cellsOf41 rfl rfl rfl rfl rfl rfl rfl rfl rfl rfl h
theorem add_plain (b o i : Nat) : (Addr.add ⟨b, o, none⟩ i) = ⟨b, o + i, none⟩ := by
  unfold Addr.add
  by_cases h : i = 0
  · subst h; simp
  · simp [h]
theorem cell_spot' {w : World} {b o : Nat} {sp : Option Nat} {v : Value} (h : w.cell? ⟨b, o, sp⟩ = some v) : sp = none ∧ b < w.heap.size := by
  constructor
  · cases sp with
    | none => rfl
    | some s =>
      simp only [World.cell?] at h
      split at h <;> simp at h
  · rcases Nat.lt_or_ge b w.heap.size with h' | h'
    · exact h'
    · simp [World.cell?, Array.getElem?_eq_none h'] at h
/-- A list of acts, opened. -/
theorem open_acts {H : Type} {enc : TypeId × Value → H} {W : World} {v : Value} {d : DataW H} {p : List MemPlace} {A : Option Addr} {n cap : Nat} (hv : v = .slice A n cap) (h : DataW.Trod enc Tryz.prog W 0 (fun _ => true) true 22 v d p) :
    ∃ l : List AA, n = l.length ∧ ReadsA W (.slice A l.length cap) l ∧ ∀ x ∈ l, OkK x.k := by
  subst hv
  obtain ⟨fuel, hf⟩ := h
  rcases Go.Deep.open_slice Tryz.underlying22 hf with ⟨hcs, hx⟩ | ⟨a, len, cap', m, k, D, Pl, hcs, _, hl, hm, hme, hx, hel⟩
  · simp [Value.cells] at hcs
    obtain ⟨rfl, rfl, rfl⟩ := hcs
    exact ⟨[], rfl, .inl ⟨none, 0, rfl, rfl⟩, fun x hx => by cases hx⟩
  · simp [Value.cells] at hcs
    obtain ⟨rfl, rfl, rfl⟩ := hcs
    have hme' : n ≤ m := by
      simp at hme
      omega
    have each : ∀ i, i < n → ∃ u : AA, W.cells? 0 (a.add (i * 23)) 23 = some u.cs ∧ OkK u.k := by
      intro i hi
      obtain ⟨cs', h1, h2⟩ := hel i (by omega)
      obtain ⟨u, rfl, hok⟩ := cells_act h2
      rw [cellsOf41] at h1
      exact ⟨u, h1, hok⟩
    have mk : ∀ k, k ≤ n → ∃ l : List AA, l.length = k ∧ (∀ i (hi : i < l.length), W.cells? 0 (a.add (i * 23)) 23 = some l[i].cs) ∧ ∀ x ∈ l, OkK x.k := by
      intro k
      induction k with
      | zero => exact fun _ => ⟨[], rfl, fun i hi => absurd hi (Nat.not_lt_zero i), fun x hx => by cases hx⟩
      | succ k ih =>
        intro hk
        obtain ⟨l, hl, hl2, hl3⟩ := ih (by omega)
        obtain ⟨u, hu2, hu3⟩ := each k (by omega)
        refine ⟨l ++ [u], by simp [hl], fun i hi => ?_, fun x hx => ?_⟩
        · by_cases e : i = k
          · subst e
            have : (l ++ [u])[i] = u := by simp [← hl]
            rw [this]
            exact hu2
          · have hi' : i < l.length := by
              simp at hi
              omega
            have : (l ++ [u])[i] = l[i] := List.getElem_append_left hi'
            rw [this]
            exact hl2 i hi'
        · rcases List.mem_append.1 hx with h | h
          · exact hl3 x h
          · obtain rfl : x = u := by simpa using h
            exact hu3
    obtain ⟨l, hll, hlc, hok⟩ := mk n (Nat.le_refl _)
    refine ⟨l, hll.symm, ?_, hok⟩
    rcases Nat.eq_zero_or_pos n with h0 | h0
    · exact .inl ⟨some a, _, by rw [hll, h0], List.length_eq_zero_iff.1 (by omega)⟩
    · obtain ⟨b, off, sp⟩ := a
      have h00 := (World.cells?_some (hlc 0 (by omega))).2.2 0 (by omega)
      have e0 : (Addr.add (Addr.add ⟨b, off, sp⟩ (0 * 23)) 0) = ⟨b, off, sp⟩ := by simp [Addr.add]
      rw [e0] at h00
      obtain ⟨rfl, hbl⟩ := cell_spot' (h00.trans rfl)
      refine .inr ⟨b, off, _, rfl, hbl, fun j hj t u hu => ?_⟩
      have ht : t < 23 := by
        have := (List.getElem?_eq_some_iff.1 hu).1
        exact this
      have h1 := (World.cells?_some (hlc j hj)).2.2 t (by omega)
      rw [add_plain, add_plain] at h1
      rw [h1]
      exact hu
end Go.Proofs.YtpbdidnphkkenaaGreatDoor
