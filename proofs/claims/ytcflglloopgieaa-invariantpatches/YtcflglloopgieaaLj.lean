import Derived.Test.YtcflglloopgieaaLi
import Derived.ProofKit
import Derived.OpenShut
import Derived.Lib.SmallJoins
import Derived.Deep.Slices
import Derived.SizedLaws
namespace Go.Proofs.Ytcflglloopgieaa
open Go.WideShapes Go.ChangeShapes Go Go.Proofs Go.Maps Go.RowKit FM
set_option linter.unusedSimpArgs false
set_option linter.unusedVariables false
set_option maxHeartbeats 1000000
theorem cellsOf24 : Try.prog.cellsOf 28 = 5 := by kernel_rfl
theorem cellsOf3 : Try.prog.cellsOf 3 = 1 := by kernel_rfl
theorem cellsOf4 : Try.prog.cellsOf 4 = 1 := by kernel_rfl
theorem cellsOf22 : Try.prog.cellsOf 26 = 1 := by kernel_rfl
theorem cellsOf9 : Try.prog.cellsOf 9 = 1 := by kernel_rfl
section
variable {H : Type} {enc : TypeId × Value → H} {P : Program} {W : World} {base : Nat} {sp : Nat → Bool} {held : Bool} {m : Nat} {c : Value} {x : DataW H × List MemPlace} {t : TypeId}
theorem cell_bool (hu : P.underlying t = some .bool) (h : DataW.trod enc P W base sp held m t [c] = some x) : ∃ b, c = .bool b ∧ x = (.lit (.bool b), []) := by
  cases m with
  | zero => simp [DataW.trod] at h
  | succ m =>
    unfold DataW.trod at h
    rw [hu] at h
    split at h <;> simp_all
theorem wf64 {b : Nat} (h : (Lit.float .f64 b).wf = true) : b < 2 ^ 64 := by
  unfold Lit.wf at h
  exact of_decide_eq_true h
theorem cell_float (hu : P.underlying t = some (.float .f64)) (h : DataW.trod enc P W base sp held m t [c] = some x) : ∃ b, c = .float .f64 b ∧ b < 2 ^ 64 ∧ x = (.lit (.float .f64 b), []) := by
  cases m with
  | zero => simp [DataW.trod] at h
  | succ m =>
    unfold DataW.trod at h
    rw [hu] at h
    split at h <;> simp_all
    rename_i e
    subst e
    exact wf64 h.1.2
theorem cell_string (hu : P.underlying t = some .string) (h : DataW.trod enc P W base sp held m t [c] = some x) : ∃ s, c = .string s ∧ s.size ≤ maxLen ∧ x = (.lit (.string s.data.toList), []) := by
  cases m with
  | zero => simp [DataW.trod] at h
  | succ m =>
    unfold DataW.trod at h
    rw [hu] at h
    split at h <;> simp_all
theorem cell_int (hu : P.underlying t = some (.int .i64)) (h : DataW.trod enc P W base sp held m t [c] = some x) : ∃ n, c = .int .i64 n ∧ (Lit.int .i64 n).wf = true ∧ x = (.lit (.int .i64 n), []) := by
  cases m with
  | zero => simp [DataW.trod] at h
  | succ m =>
    unfold DataW.trod at h
    rw [hu] at h
    split at h <;> simp_all
/-- Five cells that read as a value. -/
theorem cells_value' {f0 f1 f2 f3 f4 : Field} {cs : List Value} (hs : P.underlying t = some (.struct #[f0, f1, f2, f3, f4])) (hC : P.cellsOf t = 5)
    (o0 : f0.offset = 0) (o1 : f1.offset = 1) (o2 : f2.offset = 2) (o3 : f3.offset = 3) (o4 : f4.offset = 4)
    (u0 : P.underlying f0.type = some (.int .i64)) (u1 : P.underlying f1.type = some .bool) (u2 : P.underlying f2.type = some (.float .f64)) (u3 : P.underlying f3.type = some .string) (u4 : P.underlying f4.type = some (.int .i64))
    (s0 : P.cellsOf f0.type = 1) (s1 : P.cellsOf f1.type = 1) (s2 : P.cellsOf f2.type = 1) (s3 : P.cellsOf f3.type = 1) (s4 : P.cellsOf f4.type = 1)
    (h : DataW.trod enc P W base sp held m t cs = some x) :
    ∃ u : VV, cs = [.int .i64 u.k, .bool u.b, .float .f64 u.x, .string u.s, .int .i64 u.i] ∧ u.x < 2 ^ 64 ∧ u.s.size ≤ maxLen ∧ (Lit.int .i64 u.k).wf = true ∧ (Lit.int .i64 u.i).wf = true := by
  obtain ⟨xs, n, _, rfl, hl, hlen, hf⟩ := DataW.trod_struct hs h
  rw [hC] at hl
  match cs, hl with
  | [c0, c1, c2, c3, c4], _ =>
    have h0 := hf 0 _ rfl
    have h1 := hf 1 _ rfl
    have h2 := hf 2 _ rfl
    have h3 := hf 3 _ rfl
    have h4 := hf 4 _ rfl
    simp [s0, s1, s2, s3, s4, o0, o1, o2, o3, o4] at h0 h1 h2 h3 h4 hlen
    have g : ∀ j, j < 5 → ∃ y, xs[j]? = some y := fun j hj => ⟨_, List.getElem?_eq_getElem (by omega)⟩
    obtain ⟨y0, e0⟩ := g 0 (by omega)
    obtain ⟨y1, e1⟩ := g 1 (by omega)
    obtain ⟨y2, e2⟩ := g 2 (by omega)
    obtain ⟨y3, e3⟩ := g 3 (by omega)
    obtain ⟨y4, e4⟩ := g 4 (by omega)
    rw [e0] at h0
    rw [e1] at h1
    rw [e2] at h2
    rw [e3] at h3
    rw [e4] at h4
    obtain ⟨k, rfl, wk, -⟩ := cell_int u0 h0
    obtain ⟨b, rfl, -⟩ := cell_bool u1 h1
    obtain ⟨f, rfl, wf, -⟩ := cell_float u2 h2
    obtain ⟨s, rfl, ws, -⟩ := cell_string u3 h3
    obtain ⟨i, rfl, wi, -⟩ := cell_int u4 h4
    exact ⟨⟨k, b, f, s, i⟩, rfl, wf, ws, wk, wi⟩
end
set_option maxRecDepth 100000 in
theorem cells_value {H : Type} {enc : TypeId × Value → H} {W : World} {base : Nat} {sp : Nat → Bool} {held : Bool} {m : Nat} {x : DataW H × List MemPlace} {cs : List Value} (h : DataW.trod enc Try.prog W base sp held m 28 cs = some x) :
    ∃ u : VV, cs = [.int .i64 u.k, .bool u.b, .float .f64 u.x, .string u.s, .int .i64 u.i] ∧ u.x < 2 ^ 64 ∧ u.s.size ≤ maxLen ∧ (Lit.int .i64 u.k).wf = true ∧ (Lit.int .i64 u.i).wf = true :=
  cells_value' Try.underlying28 cellsOf24 rfl rfl rfl rfl rfl Try.underlying3 Try.underlying4 Try.underlying26 Try.underlying9 Try.underlying3 cellsOf3 cellsOf4 cellsOf22 cellsOf9 cellsOf3 h
theorem cellsOf44 : Try.prog.cellsOf 33 = 18 := by kernel_rfl
theorem cellsOf42 : Try.prog.cellsOf 31 = 1 := by kernel_rfl
theorem cellsOf41 : Try.prog.cellsOf 30 = 2 := by kernel_rfl
theorem cellsOf46 : Try.prog.cellsOf 56 = 20 := by kernel_rfl
theorem cellsOf28 : Try.prog.cellsOf 48 = 8 := by kernel_rfl
theorem cellsOf26 : Try.prog.cellsOf 46 = 1 := by kernel_rfl
section
variable {H : Type} {enc : TypeId × Value → H} {W : World} {base : Nat} {sp : Nat → Bool} {held : Bool} {m : Nat} {t : TypeId} {x : DataW H × List MemPlace}
set_option maxRecDepth 100000 in
theorem cells_desc' {f0 f1 f2 f3 f4 f5 : Field} {cs : List Value} (hs : Try.prog.underlying t = some (.struct #[f0, f1, f2, f3, f4, f5])) (hC : Try.prog.cellsOf t = 18)
    (o0 : f0.offset = 0) (o1 : f1.offset = 5) (o2 : f2.offset = 10) (o3 : f3.offset = 15) (o4 : f4.offset = 16) (o5 : f5.offset = 17)
    (t0 : f0.type = 28) (t1 : f1.type = 28) (t2 : f2.type = 28) (t3 : f3.type = 31) (t4 : f4.type = 31) (t5 : f5.type = 31)
    (h : DataW.trod enc Try.prog W base sp held m t cs = some x) : ∃ d : DD, cs = d.cs ∧ FD d := by
  obtain ⟨xs, n, _, rfl, hl, hlen, hf⟩ := DataW.trod_struct hs h
  rw [hC] at hl
  match cs, hl with
  | [c0, c1, c2, c3, c4, c5, c6, c7, c8, c9, c10, c11, c12, c13, c14, c15, c16, c17], _ =>
    have h0 := hf 0 _ rfl
    have h1 := hf 1 _ rfl
    have h2 := hf 2 _ rfl
    have h3 := hf 3 _ rfl
    have h4 := hf 4 _ rfl
    have h5 := hf 5 _ rfl
    simp [t0, t1, t2, t3, t4, t5, o0, o1, o2, o3, o4, o5, cellsOf24, cellsOf42] at h0 h1 h2 h3 h4 h5 hlen
    have g : ∀ j, j < 6 → ∃ y, xs[j]? = some y := fun j hj => ⟨_, List.getElem?_eq_getElem (by omega)⟩
    obtain ⟨y0, e0⟩ := g 0 (by omega)
    obtain ⟨y1, e1⟩ := g 1 (by omega)
    obtain ⟨y2, e2⟩ := g 2 (by omega)
    obtain ⟨y3, e3⟩ := g 3 (by omega)
    obtain ⟨y4, e4⟩ := g 4 (by omega)
    obtain ⟨y5, e5⟩ := g 5 (by omega)
    rw [e0] at h0
    rw [e1] at h1
    rw [e2] at h2
    rw [e3] at h3
    rw [e4] at h4
    rw [e5] at h5
    obtain ⟨v, q0, x0, z0, -⟩ := cells_value h0
    obtain ⟨g, q1, x1, -⟩ := cells_value h1
    obtain ⟨s, q2, x2, -⟩ := cells_value h2
    obtain ⟨a, q3, -⟩ := cell_int Try.underlying31 h3
    obtain ⟨e, q4, -⟩ := cell_int Try.underlying31 h4
    obtain ⟨c, q5, -⟩ := cell_int Try.underlying31 h5
    simp only [List.cons.injEq] at q0 q1 q2
    obtain ⟨rfl, rfl, rfl, rfl, rfl, -⟩ := q0
    obtain ⟨rfl, rfl, rfl, rfl, rfl, -⟩ := q1
    obtain ⟨rfl, rfl, rfl, rfl, rfl, -⟩ := q2
    subst q3 q4 q5
    exact ⟨⟨v, g, s, a, e, c⟩, rfl, x0, x1, x2⟩
set_option maxRecDepth 100000 in
theorem cells_desc {cs : List Value} (h : DataW.trod enc Try.prog W base sp held m 33 cs = some x) : ∃ d : DD, cs = d.cs ∧ FD d :=
  cells_desc' Try.underlying33 cellsOf44 rfl rfl rfl rfl rfl rfl rfl rfl rfl rfl rfl rfl h
set_option maxRecDepth 100000 in
theorem cells_key' {f0 f1 : Field} {cs : List Value} (hs : Try.prog.underlying t = some (.struct #[f0, f1])) (hC : Try.prog.cellsOf t = 2) (o0 : f0.offset = 0) (o1 : f1.offset = 1) (t0 : f0.type = 9) (t1 : f1.type = 3)
    (h : DataW.trod enc Try.prog W base sp held m t cs = some x) : ∃ k : KK, cs = k.cs ∧ OkK k := by
  obtain ⟨xs, n, _, rfl, hl, hlen, hf⟩ := DataW.trod_struct hs h
  rw [hC] at hl
  match cs, hl with
  | [c0, c1], _ =>
    have h0 := hf 0 _ rfl
    have h1 := hf 1 _ rfl
    simp [t0, t1, o0, o1, cellsOf9, cellsOf3] at h0 h1 hlen
    have g : ∀ j, j < 2 → ∃ y, xs[j]? = some y := fun j hj => ⟨_, List.getElem?_eq_getElem (by omega)⟩
    obtain ⟨y0, e0⟩ := g 0 (by omega)
    obtain ⟨y1, e1⟩ := g 1 (by omega)
    rw [e0] at h0
    rw [e1] at h1
    obtain ⟨s, rfl, hs1, -⟩ := cell_string Try.underlying9 h0
    obtain ⟨n, rfl, hn1, -⟩ := cell_int Try.underlying3 h1
    exact ⟨⟨s, n⟩, rfl, hs1, hn1⟩
set_option maxRecDepth 100000 in
theorem cells_key {cs : List Value} (h : DataW.trod enc Try.prog W base sp held m 30 cs = some x) : ∃ k : KK, cs = k.cs ∧ OkK k :=
  cells_key' Try.underlying30 cellsOf41 rfl rfl rfl rfl h
set_option maxRecDepth 100000 in
theorem cells_prop {cs : List Value} (h : DataW.trod enc Try.prog W base sp held m 56 cs = some x) : ∃ p : PR, cs = p.cs ∧ OkP p := by
  obtain ⟨y0, y1, n, rfl, hl, h0, h1⟩ := trod_struct2 Try.underlying56 h
  rw [cellsOf46] at hl
  simp only [cellsOf41, cellsOf44, List.drop_zero] at h0 h1
  obtain ⟨k, hk, hok⟩ := cells_key h0
  obtain ⟨d, hd, hfd⟩ := cells_desc h1
  refine ⟨⟨k, d⟩, ?_, hfd, hok⟩
  show cs = k.cs ++ d.cs
  rw [← hk, ← hd]
  have e : (cs.drop 2).take 18 = cs.drop 2 := List.take_of_length_le (by simp [hl])
  rw [e, List.take_append_drop]
end
theorem add_plain (b o i : Nat) : (Addr.add ⟨b, o, none⟩ i) = ⟨b, o + i, none⟩ := by
  unfold Addr.add
  by_cases h : i = 0
  · subst h; simp
  · simp [h]
theorem cell_spot' {w : World} {b o : Nat} {sp : Option Nat} {v : Value} (h : w.cell? ⟨b, o, sp⟩ = some v) : sp = none ∧ b < w.heap.size := by
  constructor
  · cases sp with
    | none => rfl
    | some s =>
      simp only [World.cell?] at h
      split at h <;> simp at h
  · rcases Nat.lt_or_ge b w.heap.size with h' | h'
    · exact h'
    · simp [World.cell?, Array.getElem?_eq_none h'] at h
/-- Rows of equal length, opened one by one. -/
theorem rows_of {α : Type} {f : α → List Value} {k : Nat} (hk : ∀ a, (f a).length = k) (h0 : 0 < k) {Pr : α → Prop} {W : World} {a : Addr} {n : Nat} (each : ∀ i, i < n → ∃ u : α, Pr u ∧ W.cells? 0 (a.add (i * k)) k = some (f u)) :
    ∃ l : List α, l.length = n ∧ ∀ (j : Nat) (u : α), l[j]? = some u → Pr u ∧ ∃ b off, a = ⟨b, off, none⟩ ∧ b < W.heap.size ∧ W.rangeAt b (off + j * k) (f u) := by
  have mk : ∀ q, q ≤ n → ∃ l : List α, l.length = q ∧ ∀ (i : Nat) (u : α), l[i]? = some u → Pr u ∧ W.cells? 0 (a.add (i * k)) k = some (f u) := by
    intro q
    induction q with
    | zero => exact fun _ => ⟨[], rfl, fun i u hu => by simp at hu⟩
    | succ q ih =>
      intro hq
      obtain ⟨l, hl, hl2⟩ := ih (by omega)
      obtain ⟨u, hu2⟩ := each q (by omega)
      refine ⟨l ++ [u], by simp [hl], fun i u' hu' => ?_⟩
      rcases Nat.lt_or_ge i l.length with h1 | h1
      · rw [List.getElem?_append_left h1] at hu'
        exact hl2 i u' hu'
      · rw [List.getElem?_append_right h1] at hu'
        have h3 := (List.getElem?_eq_some_iff.1 hu').1
        have h4 : i = q := by simp at h3; omega
        subst h4
        rw [hl, Nat.sub_self] at hu'
        obtain rfl : u = u' := by simpa using hu'
        exact hu2
  obtain ⟨l, hll, hlc⟩ := mk n (Nat.le_refl _)
  refine ⟨l, hll, fun j u hu => ⟨(hlc j u hu).1, ?_⟩⟩
  have h1 := (World.cells?_some (hlc j u hu).2).2.2
  obtain ⟨b, off, sp⟩ := a
  have hl0 : 0 < l.length := Nat.lt_of_le_of_lt (Nat.zero_le _) (List.getElem?_eq_some_iff.1 hu).1
  have h00 := (World.cells?_some (hlc 0 l[0] (List.getElem?_eq_getElem hl0)).2).2.2 0 h0
  have e0 : (Addr.add (Addr.add ⟨b, off, sp⟩ (0 * k)) 0) = ⟨b, off, sp⟩ := by simp [Addr.add]
  have hlen : 0 < (f l[0]).length := by rw [hk]; exact h0
  rw [e0, List.getElem?_eq_getElem hlen] at h00
  obtain ⟨rfl, hb⟩ := cell_spot' h00
  refine ⟨b, off, rfl, hb, fun t v hv => ?_⟩
  have ht : t < k := by
    have := (List.getElem?_eq_some_iff.1 hv).1
    rwa [hk] at this
  have h2 := h1 t ht
  rw [add_plain, add_plain] at h2
  rw [h2]
  exact hv
theorem bytes46 : Try.prog.bytesOf 56 = 192 := by kernel_rfl
section
variable {H : Type} {enc : TypeId × Value → H} {W : World} {m : Nat} {x : DataW H × List MemPlace}
theorem weights_all {P : Program} {e : TypeId} : ∀ {l : List (DataW H)} {d : DataW H}, d ∈ l → ∀ n ∈ d.weights P e, n ∈ DataW.weightsAll P e l
  | y :: l, d, hd, n, hn => by
    simp only [DataW.weightsAll, List.mem_append]
    rcases List.mem_cons.1 hd with rfl | hd
    · exact .inl hn
    · exact .inr (weights_all hd n hn)
end
section
variable {H : Type} {enc : TypeId × Value → H} {W : World} {base : Nat} {sp : Nat → Bool} {held : Bool} {m : Nat} {x : DataW H × List MemPlace}
set_option maxRecDepth 100000 in
theorem val_str {u : VV} (h : DataW.trod enc Try.prog W base sp held m 28 u.cs = some x) (hw : ∀ n ∈ x.1.weights Try.prog 28, n ≤ reachBytes) : SV u := by
  obtain ⟨xs, n, _, rfl, hl, hlen, hf⟩ := DataW.trod_struct Try.underlying28 h
  have h3 := hf 3 _ rfl
  simp [cellsOf9, VV.cs] at h3 hlen
  obtain ⟨y3, e3⟩ : ∃ y, xs[3]? = some y := ⟨_, List.getElem?_eq_getElem (by omega)⟩
  rw [e3] at h3
  obtain ⟨s, hs, hs1, hy⟩ := cell_string Try.underlying9 h3
  obtain rfl : u.s = s := by simpa using hs
  have hm := DataW.weights_mem_each (P := Try.prog) (ts := [3, 4, 26, 9, 3]) (ds := xs.map (·.1)) (j := 3) (t := 9) (d := y3.1) rfl (by rw [List.getElem?_map, e3]; rfl) u.s.size (by rw [hy]; simp [DataW.weights])
  have h9 := hw u.s.size (by simpa [DataW.weights, Try.underlying28] using hm)
  have := reachBytes_lt
  unfold SV
  omega
set_option maxRecDepth 100000 in
theorem key_str {k : KK} (h : DataW.trod enc Try.prog W base sp held m 30 k.cs = some x) (hw : ∀ n ∈ x.1.weights Try.prog 30, n ≤ reachBytes) : k.s.size ≤ 281474976710656 := by
  obtain ⟨xs, n, _, rfl, hl, hlen, hf⟩ := DataW.trod_struct Try.underlying30 h
  have h3 := hf 0 _ rfl
  simp [cellsOf9, KK.cs] at h3 hlen
  obtain ⟨y3, e3⟩ : ∃ y, xs[0]? = some y := ⟨_, List.getElem?_eq_getElem (by omega)⟩
  rw [e3] at h3
  obtain ⟨s, hs, hs1, hy⟩ := cell_string Try.underlying9 h3
  obtain rfl : k.s = s := by simpa using hs
  have hm := DataW.weights_mem_each (P := Try.prog) (ts := [9, 3]) (ds := xs.map (·.1)) (j := 0) (t := 9) (d := y3.1) rfl (by rw [List.getElem?_map, e3]; rfl) k.s.size (by rw [hy]; simp [DataW.weights])
  have h9 := hw k.s.size (by simpa [DataW.weights, Try.underlying30] using hm)
  have := reachBytes_lt
  omega
set_option maxRecDepth 100000 in
theorem desc_str {d : DD} (h : DataW.trod enc Try.prog W base sp held m 33 d.cs = some x) (hw : ∀ n ∈ x.1.weights Try.prog 33, n ≤ reachBytes) : SD d := by
  obtain ⟨xs, n, _, rfl, hl, hlen, hf⟩ := DataW.trod_struct Try.underlying33 h
  have h0 := hf 0 _ rfl
  have h1 := hf 1 _ rfl
  have h2 := hf 2 _ rfl
  simp [cellsOf24, DD.cs] at h0 h1 h2 hlen
  have g : ∀ j, j < 6 → ∃ y, xs[j]? = some y := fun j hj => ⟨_, List.getElem?_eq_getElem (by omega)⟩
  obtain ⟨y0, e0⟩ := g 0 (by omega)
  obtain ⟨y1, e1⟩ := g 1 (by omega)
  obtain ⟨y2, e2⟩ := g 2 (by omega)
  rw [e0] at h0
  rw [e1] at h1
  rw [e2] at h2
  have hj : ∀ (j : Nat) (y : DataW H × List MemPlace), xs[j]? = some y → j < 3 → ∀ q ∈ y.1.weights Try.prog 28, q ≤ reachBytes := fun j y hy hj q hq => hw q (by
    have ht : ([28, 28, 28, 31, 31, 31] : List TypeId)[j]? = some 28 := by
      rcases (by omega : j = 0 ∨ j = 1 ∨ j = 2) with rfl | rfl | rfl <;> rfl
    have hm := DataW.weights_mem_each (P := Try.prog) (ts := [28, 28, 28, 31, 31, 31]) (ds := xs.map (·.1)) (j := j) (t := 28) (d := y.1) ht (by rw [List.getElem?_map, hy]; rfl) q hq
    simpa [DataW.weights, Try.underlying33] using hm)
  exact ⟨val_str (u := d.v) h0 (hj 0 y0 e0 (by omega)), val_str (u := d.g) h1 (hj 1 y1 e1 (by omega)), val_str (u := d.s) h2 (hj 2 y2 e2 (by omega))⟩
set_option maxRecDepth 100000 in
theorem prop_str {p : PR} (h : DataW.trod enc Try.prog W base sp held m 56 p.cs = some x) (hw : ∀ n ∈ x.1.weights Try.prog 56, n ≤ reachBytes) : SP p := by
  obtain ⟨xs, n, _, rfl, hl, hlen, hf⟩ := DataW.trod_struct Try.underlying56 h
  have h0 := hf 0 _ rfl
  have h1 := hf 1 _ rfl
  simp [cellsOf41, cellsOf44, PR.cs, KK.cs, DD.cs] at h0 h1 hlen
  have g : ∀ j, j < 2 → ∃ y, xs[j]? = some y := fun j hj => ⟨_, List.getElem?_eq_getElem (by omega)⟩
  obtain ⟨y0, e0⟩ := g 0 (by omega)
  obtain ⟨y1, e1⟩ := g 1 (by omega)
  rw [e0] at h0
  rw [e1] at h1
  refine ⟨key_str (k := p.k) h0 (fun q hq => hw q ?_), desc_str (d := p.d) h1 (fun q hq => hw q ?_)⟩
  · have hm := DataW.weights_mem_each (P := Try.prog) (ts := [30, 33]) (ds := xs.map (·.1)) (j := 0) (t := 30) (d := y0.1) rfl (by rw [List.getElem?_map, e0]; rfl) q hq
    simpa [DataW.weights, Try.underlying56] using hm
  · have hm := DataW.weights_mem_each (P := Try.prog) (ts := [30, 33]) (ds := xs.map (·.1)) (j := 1) (t := 33) (d := y1.1) rfl (by rw [List.getElem?_map, e1]; rfl) q hq
    simpa [DataW.weights, Try.underlying56] using hm
end
section
variable {H : Type} {enc : TypeId × Value → H} {W : World} {m : Nat} {x : DataW H × List MemPlace}
theorem open_rowPU {cs : List Value} (h : DataW.trod enc Try.prog W 0 (fun _ => true) true m 46 cs = some x) (hw : ∀ n ∈ x.1.weights Try.prog 46, n ≤ reachBytes) :
    ∃ (A : Option Addr) (cap : Nat) (l : List PR), cs = [.slice A l.length cap] ∧ ReadsP W A l ∧ (A = none → cap = 0) ∧ l.length ≤ 733007751850 ∧ l.length ≤ cap ∧ ∀ p ∈ l, SP p := by
  rcases Go.Deep.open_slice Try.underlying46 h with ⟨hcs, hx⟩ | ⟨a, len, cap, mm, k, D, Pl, hcs, _, hl, hm, hme, hx, hel⟩
  · exact ⟨none, 0, [], hcs, fun j u hu => by simp at hu, fun _ => rfl, by simp, by simp, by simp⟩
  · have hme' : len ≤ mm := by
      simp at hme
      omega
    have hd : x.1 = .slice ((List.range len).map D) ((List.range (mm - len)).map fun j => D (len + j)) := congrArg Prod.fst hx
    have each : ∀ i, i < len → ∃ u : PR, (OkP u ∧ SP u) ∧ W.cells? 0 (a.add (i * 20)) 20 = some u.cs := by
      intro i hi
      obtain ⟨cs', h1, h2⟩ := hel i (by omega)
      obtain ⟨u, rfl, hu⟩ := cells_prop h2
      rw [cellsOf46] at h1
      exact ⟨u, ⟨hu, prop_str h2 (fun q hq => hw q (by
        have hm := weights_all (P := Try.prog) (e := 56) (l := (List.range len).map D) (d := D i) (List.mem_map.2 ⟨i, List.mem_range.2 hi, rfl⟩) q hq
        rw [hd]
        simp only [DataW.weights, Try.underlying46, List.mem_cons, List.mem_append]
        exact .inr (.inl hm)))⟩, h1⟩
    obtain ⟨l, hll, hlr⟩ := rows_of pcs_length (by omega) each
    refine ⟨some a, cap, l, by rw [hcs, hll], fun j p hp => ?_, (fun h => by cases h), ?_, by omega, fun p hp => ?_⟩
    · obtain ⟨h1, b, off, rfl, h3, h4⟩ := hlr j p hp
      exact ⟨h1.1, b, off, rfl, h3, h4⟩
    · rw [hx] at hw
      have h1 := hw ((((List.range len).map D).length + ((List.range (mm - len)).map fun j => D (len + j)).length) * Try.prog.bytesOf 56) (by simp [DataW.weights, Try.underlying46])
      rw [bytes46] at h1
      have h2 := reachBytes_lt
      simp at h1
      omega
    · obtain ⟨j, hj⟩ := List.getElem?_of_mem hp
      exact (hlr j p hj).1.2
set_option maxRecDepth 100000 in
theorem cells_shapeU {cs : List Value} (h : DataW.trod enc Try.prog W 0 (fun _ => true) true m 48 cs = some x) (hw : ∀ n ∈ x.1.weights Try.prog 48, n ≤ reachBytes) :
    ∃ e : CE, (e.s.p.x < 2 ^ 64 ∧ e.s.ps.length ≤ 733007751850 ∧ ReadsP W e.A e.s.ps ∧ (e.A = none → e.cap = 0) ∧ e.s.ps.length ≤ e.cap ∧ SS e.s) ∧ cs = e.cs := by
  obtain ⟨xs, n, _, rfl, hl, hlen, hf⟩ := DataW.trod_struct Try.underlying48 h
  rw [cellsOf28] at hl
  match cs, hl with
  | [c0, c1, c2, c3, c4, c5, c6, c7], _ =>
    have h0 := hf 0 _ rfl
    have h1 := hf 1 _ rfl
    have h2 := hf 2 _ rfl
    have h3 := hf 3 _ rfl
    simp [cellsOf3, cellsOf4, cellsOf24, cellsOf26] at h0 h1 h2 h3 hlen
    have g : ∀ j, j < 4 → ∃ y, xs[j]? = some y := fun j hj => ⟨_, List.getElem?_eq_getElem (by omega)⟩
    obtain ⟨y0, e0⟩ := g 0 (by omega)
    obtain ⟨y1, e1⟩ := g 1 (by omega)
    obtain ⟨y2, e2⟩ := g 2 (by omega)
    obtain ⟨y3, e3⟩ := g 3 (by omega)
    rw [e0] at h0
    rw [e1] at h1
    rw [e2] at h2
    rw [e3] at h3
    obtain ⟨kd, rfl, -, -⟩ := cell_int Try.underlying3 h0
    obtain ⟨v, hv, hx64, -⟩ := cells_value h1
    obtain ⟨b, rfl, -⟩ := cell_bool Try.underlying4 h2
    have hsv : SV v := val_str (u := v) (by rw [hv] at h1; exact h1) (fun q hq => hw q (by
      have hm := DataW.weights_mem_each (P := Try.prog) (ts := [3, 28, 4, 46]) (ds := xs.map (·.1)) (j := 1) (t := 28) (d := y1.1) rfl (by rw [List.getElem?_map, e1]; rfl) q hq
      simpa [DataW.weights, Try.underlying48] using hm))
    obtain ⟨A, cap, l, hcs, hR, hc0, hz, hlc, hsp⟩ := open_rowPU h3 (fun q hq => hw q (by
      have hm := DataW.weights_mem_each (P := Try.prog) (ts := [3, 28, 4, 46]) (ds := xs.map (·.1)) (j := 3) (t := 46) (d := y3.1) rfl (by rw [List.getElem?_map, e3]; rfl) q hq
      simpa [DataW.weights, Try.underlying48] using hm))
    refine ⟨⟨⟨kd, v, b, l⟩, A, cap⟩, ⟨hx64, hz, hR, hc0, hlc, hsv, hsp⟩, ?_⟩
    simp only [List.cons.injEq] at hv hcs
    obtain ⟨rfl, rfl, rfl, rfl, rfl, -⟩ := hv
    obtain ⟨rfl, -⟩ := hcs
    rfl
theorem open_rowSU {v : Value} {d : DataW H} {p : List MemPlace} {A : Option Addr} {n cap : Nat} (hv : v = .slice A n cap) (h : DataW.Trod enc Try.prog W 0 (fun _ => true) true 22 v d p) (hw : ∀ n ∈ d.weights Try.prog 22, n ≤ reachBytes) : ∃ l : List SH, n = l.length ∧ ReadsX W A l := by
  subst hv
  obtain ⟨fuel, hf⟩ := h
  rcases Go.Deep.open_slice Try.underlying22 hf with ⟨hcs, hx⟩ | ⟨a, len, cap', mm, k, D, Pl, hcs, _, hl, hm, hme, hx, hel⟩
  · simp [Value.cells] at hcs
    obtain ⟨rfl, rfl, rfl⟩ := hcs
    exact ⟨[], rfl, fun j u hu => by simp at hu⟩
  · simp [Value.cells] at hcs
    obtain ⟨rfl, rfl, rfl⟩ := hcs
    have hme' : n ≤ mm := by
      simp at hme
      omega
    have hd : d = .slice ((List.range n).map D) ((List.range (mm - n)).map fun j => D (n + j)) := congrArg Prod.fst hx
    have each : ∀ i, i < n → ∃ u : CE, (u.s.p.x < 2 ^ 64 ∧ u.s.ps.length ≤ 733007751850 ∧ ReadsP W u.A u.s.ps ∧ (u.A = none → u.cap = 0) ∧ u.s.ps.length ≤ u.cap ∧ SS u.s) ∧ W.cells? 0 (a.add (i * 8)) 8 = some u.cs := by
      intro i hi
      obtain ⟨cs', h1, h2⟩ := hel i (by omega)
      obtain ⟨u, hu, rfl⟩ := cells_shapeU h2 (fun q hq => hw q (by
        have hm := weights_all (P := Try.prog) (e := 48) (l := (List.range n).map D) (d := D i) (List.mem_map.2 ⟨i, List.mem_range.2 hi, rfl⟩) q hq
        rw [hd]
        simp only [DataW.weights, Try.underlying22, List.mem_cons, List.mem_append]
        exact .inr (.inl hm)))
      rw [cellsOf28] at h1
      exact ⟨u, hu, h1⟩
    obtain ⟨l, hll, hlr⟩ := rows_of ce_length (by omega) each
    refine ⟨l.map CE.s, by simp [hll], fun j s hs => ?_⟩
    rw [List.getElem?_map] at hs
    obtain ⟨e, he, rfl⟩ := Option.map_eq_some_iff.1 hs
    obtain ⟨⟨h1, h2, h3, h4, h5, h6⟩, b, off, rfl, h7, h8⟩ := hlr j e he
    exact ⟨h6, h1, h2, b, off, e.A, e.cap, rfl, h7, h3, h8, h4, h5⟩
end
theorem cellsOfL : Try.prog.cellsOf 35 = 29 := by kernel_rfl
section
variable {H : Type} {enc : TypeId × Value → H} {W : World} {m : Nat} {x : DataW H × List MemPlace}
set_option maxRecDepth 100000 in
theorem cells_delta {cs : List Value} (h : DataW.trod enc Try.prog W 0 (fun _ => true) true m 35 cs = some x) (hw : ∀ n ∈ x.1.weights Try.prog 35, n ≤ reachBytes) : ∃ d : DL, GL d ∧ cs = d.cs := by
  obtain ⟨xs, n, _, rfl, hl, hlen, hf⟩ := DataW.trod_struct Try.underlying35 h
  rw [cellsOfL] at hl
  match cs, hl with
  | [c0, c1, c2, c3, c4, c5, c6, c7, c8, c9, c10, c11, c12, c13, c14, c15, c16, c17, c18, c19, c20, c21, c22, c23, c24, c25, c26, c27, c28], _ =>
    have h0 := hf 0 _ rfl
    have h1 := hf 1 _ rfl
    have h2 := hf 2 _ rfl
    have h3 := hf 3 _ rfl
    have h4 := hf 4 _ rfl
    have h5 := hf 5 _ rfl
    have h6 := hf 6 _ rfl
    simp [cellsOf3, cellsOf4, cellsOf24, cellsOf41, cellsOf44] at h0 h1 h2 h3 h4 h5 h6 hlen
    have g : ∀ j, j < 7 → ∃ y, xs[j]? = some y := fun j hj => ⟨_, List.getElem?_eq_getElem (by omega)⟩
    obtain ⟨y0, e0⟩ := g 0 (by omega)
    obtain ⟨y1, e1⟩ := g 1 (by omega)
    obtain ⟨y2, e2⟩ := g 2 (by omega)
    obtain ⟨y3, e3⟩ := g 3 (by omega)
    obtain ⟨y4, e4⟩ := g 4 (by omega)
    obtain ⟨y5, e5⟩ := g 5 (by omega)
    obtain ⟨y6, e6⟩ := g 6 (by omega)
    rw [e0] at h0
    rw [e1] at h1
    rw [e2] at h2
    rw [e3] at h3
    rw [e4] at h4
    rw [e5] at h5
    rw [e6] at h6
    obtain ⟨a, rfl, -, -⟩ := cell_int Try.underlying3 h0
    obtain ⟨b, rfl, -, -⟩ := cell_int Try.underlying3 h1
    obtain ⟨c, rfl, -, -⟩ := cell_int Try.underlying3 h2
    obtain ⟨y, rfl, -⟩ := cell_bool Try.underlying4 h3
    obtain ⟨v, hv, hx64, -⟩ := cells_value h4
    obtain ⟨k, hk, hok⟩ := cells_key h5
    obtain ⟨d, hd, hfd⟩ := cells_desc h6
    have hsv : SV v := val_str (u := v) (by rw [hv] at h4; exact h4) (fun q hq => hw q (by
      have hm := DataW.weights_mem_each (P := Try.prog) (ts := [3, 3, 3, 4, 28, 30, 33]) (ds := xs.map (·.1)) (j := 4) (t := 28) (d := y4.1) rfl (by rw [List.getElem?_map, e4]; rfl) q hq
      simpa [DataW.weights, Try.underlying35] using hm))
    have hsk := key_str (k := k) (by rw [hk] at h5; exact h5) (fun q hq => hw q (by
      have hm := DataW.weights_mem_each (P := Try.prog) (ts := [3, 3, 3, 4, 28, 30, 33]) (ds := xs.map (·.1)) (j := 5) (t := 30) (d := y5.1) rfl (by rw [List.getElem?_map, e5]; rfl) q hq
      simpa [DataW.weights, Try.underlying35] using hm))
    have hsd := desc_str (d := d) (by rw [hd] at h6; exact h6) (fun q hq => hw q (by
      have hm := DataW.weights_mem_each (P := Try.prog) (ts := [3, 3, 3, 4, 28, 30, 33]) (ds := xs.map (·.1)) (j := 6) (t := 33) (d := y6.1) rfl (by rw [List.getElem?_map, e6]; rfl) q hq
      simpa [DataW.weights, Try.underlying35] using hm))
    refine ⟨⟨a, b, c, y, v, k, d⟩, ⟨hsv, hx64, ⟨hfd, hok⟩, hsk, hsd⟩, ?_⟩
    show _ = [Value.int .i64 a, .int .i64 b, .int .i64 c, .bool y] ++ v.cs ++ k.cs ++ d.cs
    have hv' : [c4, c5, c6, c7, c8] = v.cs := hv
    have hk' : [c9, c10] = k.cs := hk
    have hd' : [c11, c12, c13, c14, c15, c16, c17, c18, c19, c20, c21, c22, c23, c24, c25, c26, c27, c28] = d.cs := hd
    rw [← hv', ← hk', ← hd']
    rfl
theorem open_rowL {v : Value} {d : DataW H} {p : List MemPlace} {A : Option Addr} {n cap : Nat} (hv : v = .slice A n cap) (h : DataW.Trod enc Try.prog W 0 (fun _ => true) true 23 v d p) (hw : ∀ n ∈ d.weights Try.prog 23, n ≤ reachBytes) : ∃ l : List DL, n = l.length ∧ ReadsL W A l ∧ (A = none → cap = 0) := by
  subst hv
  obtain ⟨fuel, hf⟩ := h
  rcases Go.Deep.open_slice Try.underlying23 hf with ⟨hcs, hx⟩ | ⟨a, len, cap', mm, k, D, Pl, hcs, _, hl, hm, hme, hx, hel⟩
  · simp [Value.cells] at hcs
    obtain ⟨rfl, rfl, rfl⟩ := hcs
    exact ⟨[], rfl, fun j u hu => by simp at hu, fun _ => rfl⟩
  · simp [Value.cells] at hcs
    obtain ⟨rfl, rfl, rfl⟩ := hcs
    have hme' : n ≤ mm := by
      simp at hme
      omega
    have hd : d = .slice ((List.range n).map D) ((List.range (mm - n)).map fun j => D (n + j)) := congrArg Prod.fst hx
    have each : ∀ i, i < n → ∃ u : DL, GL u ∧ W.cells? 0 (a.add (i * 29)) 29 = some u.cs := by
      intro i hi
      obtain ⟨cs', h1, h2⟩ := hel i (by omega)
      obtain ⟨u, hu, rfl⟩ := cells_delta h2 (fun q hq => hw q (by
        have hm := weights_all (P := Try.prog) (e := 35) (l := (List.range n).map D) (d := D i) (List.mem_map.2 ⟨i, List.mem_range.2 hi, rfl⟩) q hq
        rw [hd]
        simp only [DataW.weights, Try.underlying23, List.mem_cons, List.mem_append]
        exact .inr (.inl hm)))
      rw [cellsOfL] at h1
      exact ⟨u, hu, h1⟩
    obtain ⟨l, hll, hlr⟩ := rows_of dlcs_length (by omega) each
    refine ⟨l, hll.symm, fun j s hs => ?_, fun h => by cases h⟩
    obtain ⟨h1, b, off, rfl, h7, h8⟩ := hlr j s hs
    exact ⟨h1, b, off, rfl, h7, h8⟩
end
end Go.Proofs.Ytcflglloopgieaa
