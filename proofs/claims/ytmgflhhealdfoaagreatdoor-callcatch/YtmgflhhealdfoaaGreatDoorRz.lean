import Derived.Test.YtmgflhhealdfoaaGreatDoorRy
import Derived.ProofKit
import Derived.OpenShut
import Derived.Deep.Slices
set_option linter.all false
namespace Go.Proofs.YtmgflhhealdfoaaGreatDoor
set_option maxHeartbeats 1000000
section
open Go.WideShapes Go.ChangeShapes Go Go.Proofs Go.Maps Go.RowKit FM
theorem cellsOf24 : Tryz.prog.cellsOf 24 = 5 := by kernel_rfl
theorem cellsOf3 : Tryz.prog.cellsOf 3 = 1 := by kernel_rfl
theorem cellsOf4 : Tryz.prog.cellsOf 4 = 1 := by kernel_rfl
theorem cellsOf22 : Tryz.prog.cellsOf 22 = 1 := by kernel_rfl
theorem cellsOf9 : Tryz.prog.cellsOf 9 = 1 := by kernel_rfl
theorem cellsOf26 : Tryz.prog.cellsOf 26 = 2 := by kernel_rfl
section
variable {H : Type} {enc : TypeId × Value → H} {P : Program} {W : World} {base : Nat} {sp : Nat → Bool} {held : Bool} {m : Nat} {c : Value} {x : DataW H × List MemPlace} {t : TypeId}
theorem cell_bool (hu : P.underlying t = some .bool) (h : DataW.trod enc P W base sp held m t [c] = some x) : ∃ b, c = .bool b ∧ x = (.lit (.bool b), []) := by
  cases m with
  | zero => simp [DataW.trod] at h
  | succ m =>
    unfold DataW.trod at h
    rw [hu] at h
    split at h <;> simp_all
theorem wf64 {b : Nat} (h : (Lit.float .f64 b).wf = true) : b < 2 ^ 64 := by
  unfold Lit.wf at h
  exact of_decide_eq_true h
theorem cell_float (hu : P.underlying t = some (.float .f64)) (h : DataW.trod enc P W base sp held m t [c] = some x) : ∃ b, c = .float .f64 b ∧ b < 2 ^ 64 ∧ x = (.lit (.float .f64 b), []) := by
  cases m with
  | zero => simp [DataW.trod] at h
  | succ m =>
    unfold DataW.trod at h
    rw [hu] at h
    split at h <;> simp_all
    rename_i e
    subst e
    exact wf64 h.1.2
theorem cell_string (hu : P.underlying t = some .string) (h : DataW.trod enc P W base sp held m t [c] = some x) : ∃ s, c = .string s ∧ s.size ≤ maxLen ∧ x = (.lit (.string s.data.toList), []) := by
  cases m with
  | zero => simp [DataW.trod] at h
  | succ m =>
    unfold DataW.trod at h
    rw [hu] at h
    split at h <;> simp_all
theorem cell_int (hu : P.underlying t = some (.int .i64)) (h : DataW.trod enc P W base sp held m t [c] = some x) : ∃ n, c = .int .i64 n ∧ (Lit.int .i64 n).wf = true ∧ x = (.lit (.int .i64 n), []) := by
  cases m with
  | zero => simp [DataW.trod] at h
  | succ m =>
    unfold DataW.trod at h
    rw [hu] at h
    split at h <;> simp_all
/-- Five cells that read as a value. -/
theorem cells_value' {f0 f1 f2 f3 f4 : Field} {cs : List Value} (hs : P.underlying t = some (.struct #[f0, f1, f2, f3, f4])) (hC : P.cellsOf t = 5)
    (o0 : f0.offset = 0) (o1 : f1.offset = 1) (o2 : f2.offset = 2) (o3 : f3.offset = 3) (o4 : f4.offset = 4)
    (u0 : P.underlying f0.type = some (.int .i64)) (u1 : P.underlying f1.type = some .bool) (u2 : P.underlying f2.type = some (.float .f64)) (u3 : P.underlying f3.type = some .string) (u4 : P.underlying f4.type = some (.int .i64))
    (s0 : P.cellsOf f0.type = 1) (s1 : P.cellsOf f1.type = 1) (s2 : P.cellsOf f2.type = 1) (s3 : P.cellsOf f3.type = 1) (s4 : P.cellsOf f4.type = 1)
    (h : DataW.trod enc P W base sp held m t cs = some x) :
    ∃ u : VV, cs = [.int .i64 u.k, .bool u.b, .float .f64 u.x, .string u.s, .int .i64 u.i] ∧ u.x < 2 ^ 64 ∧ u.s.size ≤ maxLen ∧ (Lit.int .i64 u.k).wf = true ∧ (Lit.int .i64 u.i).wf = true := by
  obtain ⟨xs, n, _, rfl, hl, hlen, hf⟩ := DataW.trod_struct hs h
  rw [hC] at hl
  match cs, hl with
  | [c0, c1, c2, c3, c4], _ =>
    have h0 := hf 0 _ rfl
    have h1 := hf 1 _ rfl
    have h2 := hf 2 _ rfl
    have h3 := hf 3 _ rfl
    have h4 := hf 4 _ rfl
    simp [s0, s1, s2, s3, s4, o0, o1, o2, o3, o4] at h0 h1 h2 h3 h4 hlen
    have g : ∀ j, j < 5 → ∃ y, xs[j]? = some y := fun j hj => ⟨_, List.getElem?_eq_getElem (by omega)⟩
    obtain ⟨y0, e0⟩ := g 0 (by omega)
    obtain ⟨y1, e1⟩ := g 1 (by omega)
    obtain ⟨y2, e2⟩ := g 2 (by omega)
    obtain ⟨y3, e3⟩ := g 3 (by omega)
    obtain ⟨y4, e4⟩ := g 4 (by omega)
    rw [e0] at h0
    rw [e1] at h1
    rw [e2] at h2
    rw [e3] at h3
    rw [e4] at h4
    obtain ⟨k, rfl, wk, -⟩ := cell_int u0 h0
    obtain ⟨b, rfl, -⟩ := cell_bool u1 h1
    obtain ⟨f, rfl, wf, -⟩ := cell_float u2 h2
    obtain ⟨s, rfl, ws, -⟩ := cell_string u3 h3
    obtain ⟨i, rfl, wi, -⟩ := cell_int u4 h4
    exact ⟨⟨k, b, f, s, i⟩, rfl, wf, ws, wk, wi⟩
end
set_option maxRecDepth 100000 in
theorem cells_value {H : Type} {enc : TypeId × Value → H} {W : World} {base : Nat} {sp : Nat → Bool} {held : Bool} {m : Nat} {x : DataW H × List MemPlace} {cs : List Value} (h : DataW.trod enc Tryz.prog W base sp held m 24 cs = some x) :
    ∃ u : VV, cs = [.int .i64 u.k, .bool u.b, .float .f64 u.x, .string u.s, .int .i64 u.i] ∧ u.x < 2 ^ 64 ∧ u.s.size ≤ maxLen ∧ (Lit.int .i64 u.k).wf = true ∧ (Lit.int .i64 u.i).wf = true :=
  cells_value' Tryz.underlying24 cellsOf24 rfl rfl rfl rfl rfl Tryz.underlying3 Tryz.underlying4 Tryz.underlying22 Tryz.underlying9 Tryz.underlying3 cellsOf3 cellsOf4 cellsOf22 cellsOf9 cellsOf3 h
set_option maxRecDepth 100000 in
theorem open_value {H : Type} {enc : TypeId × Value → H} {W : World} {base : Nat} {sp : Nat → Bool} {held : Bool} {r : Reach} {b0 : Nat} {v : Value} {d : DataW H} {p : List MemPlace} (hv : Value.okWide Tryz.prog W r b0 24 v) (h : DataW.Trod enc Tryz.prog W base sp held 24 v d p) :
    ∃ u : VV, v = u.agg ∧ u.x < 2 ^ 64 ∧ u.s.size ≤ maxLen ∧ (Lit.int .i64 u.k).wf = true ∧ (Lit.int .i64 u.i).wf = true := by
  obtain ⟨cs, rfl, hsz⟩ := okWide_struct Tryz.underlying24 hv
  obtain ⟨fuel, hf⟩ := h
  obtain ⟨u, hc, h1, h2, h3, h4⟩ := cells_value hf
  refine ⟨u, ?_, h1, h2, h3, h4⟩
  have hc' : cs.toList = [.int .i64 u.k, .bool u.b, .float .f64 u.x, .string u.s, .int .i64 u.i] := hc
  have : cs = #[.int .i64 u.k, .bool u.b, .float .f64 u.x, .string u.s, .int .i64 u.i] := Array.toList_inj.1 hc'
  rw [this]
  rfl
section
variable {H : Type} {enc : TypeId × Value → H} {P : Program} {W : World} {base : Nat} {sp : Nat → Bool} {held : Bool} {m : Nat} {c : Value} {x : DataW H × List MemPlace} {t : TypeId}
set_option maxRecDepth 100000 in
theorem cells_key' {f0 f1 : Field} {cs : List Value} (hs : Tryz.prog.underlying t = some (.struct #[f0, f1])) (hC : Tryz.prog.cellsOf t = 2) (o0 : f0.offset = 0) (o1 : f1.offset = 1) (t0 : f0.type = 9) (t1 : f1.type = 3)
    (h : DataW.trod enc Tryz.prog W base sp held m t cs = some x) : ∃ k : KK, cs = k.cs ∧ OkK k := by
  obtain ⟨xs, n, _, rfl, hl, hlen, hf⟩ := DataW.trod_struct hs h
  rw [hC] at hl
  match cs, hl with
  | [c0, c1], _ =>
    have h0 := hf 0 _ rfl
    have h1 := hf 1 _ rfl
    simp [t0, t1, o0, o1, cellsOf9, cellsOf3] at h0 h1 hlen
    have g : ∀ j, j < 2 → ∃ y, xs[j]? = some y := fun j hj => ⟨_, List.getElem?_eq_getElem (by omega)⟩
    obtain ⟨y0, e0⟩ := g 0 (by omega)
    obtain ⟨y1, e1⟩ := g 1 (by omega)
    rw [e0] at h0
    rw [e1] at h1
    obtain ⟨s, rfl, hs1, -⟩ := cell_string Tryz.underlying9 h0
    obtain ⟨n, rfl, hn1, -⟩ := cell_int Tryz.underlying3 h1
    exact ⟨⟨s, n⟩, rfl, hs1, hn1⟩
end
set_option maxRecDepth 100000 in
theorem cells_key {H : Type} {enc : TypeId × Value → H} {W : World} {base : Nat} {sp : Nat → Bool} {held : Bool} {m : Nat} {x : DataW H × List MemPlace} {cs : List Value} (h : DataW.trod enc Tryz.prog W base sp held m 26 cs = some x) : ∃ k : KK, cs = k.cs ∧ OkK k :=
  cells_key' Tryz.underlying26 cellsOf26 rfl rfl rfl rfl h
set_option maxRecDepth 100000 in
theorem open_key {H : Type} {enc : TypeId × Value → H} {W : World} {base : Nat} {sp : Nat → Bool} {held : Bool} {r : Reach} {b0 : Nat} {v : Value} {d : DataW H} {p : List MemPlace} (hv : Value.okWide Tryz.prog W r b0 26 v) (h : DataW.Trod enc Tryz.prog W base sp held 26 v d p) :
    ∃ u : KK, v = u.agg ∧ OkK u := by
  obtain ⟨cs, rfl, hsz⟩ := okWide_struct Tryz.underlying26 hv
  obtain ⟨fuel, hf⟩ := h
  obtain ⟨u, hc, hok⟩ := cells_key hf
  refine ⟨u, ?_, hok⟩
  have hc' : cs.toList = u.cs := hc
  have : cs = u.cs.toArray := Array.toList_inj.1 (by simpa using hc')
  rw [this]
  rfl
