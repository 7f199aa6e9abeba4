import Derived.Test.YtmlofbgnoaobfaaDoorLm
import Derived.ProofKit
import Derived.OpenShut
import Derived.Deep.Slices
import Derived.Lib.SmallJoins
namespace Go.Proofs.YtmlofbgnoaobfaaDoor
open Go.RowKit Go.WideShapes Go.ChangeShapes
set_option linter.unusedSimpArgs false
set_option linter.unusedVariables false
theorem cellsOf23 : Tryd.prog.cellsOf 23 = 2 := by kernel_rfl
theorem cellsOf3 : Tryd.prog.cellsOf 3 = 1 := by kernel_rfl
theorem cellsOf9 : Tryd.prog.cellsOf 9 = 1 := by kernel_rfl
section
variable {H : Type} {enc : TypeId × Value → H} {P : Program} {W : World} {base : Nat} {sp : Nat → Bool} {held : Bool} {m : Nat} {c : Value} {x : DataW H × List MemPlace} {t : TypeId}
theorem cell_string (hu : P.underlying t = some .string) (h : DataW.trod enc P W base sp held m t [c] = some x) : ∃ s, c = .string s ∧ s.size ≤ maxLen ∧ x = (.lit (.string s.data.toList), []) := by
  cases m with
  | zero => simp [DataW.trod] at h
  | succ m =>
    unfold DataW.trod at h
    rw [hu] at h
    split at h <;> simp_all
theorem cell_int (hu : P.underlying t = some (.int .i64)) (h : DataW.trod enc P W base sp held m t [c] = some x) : ∃ n, c = .int .i64 n ∧ (Lit.int .i64 n).wf = true ∧ x = (.lit (.int .i64 n), []) := by
  cases m with
  | zero => simp [DataW.trod] at h
  | succ m =>
    unfold DataW.trod at h
    rw [hu] at h
    split at h <;> simp_all
set_option maxRecDepth 100000 in
theorem cells_key' {f0 f1 : Field} {cs : List Value} (hs : Tryd.prog.underlying t = some (.struct #[f0, f1])) (hC : Tryd.prog.cellsOf t = 2) (o0 : f0.offset = 0) (o1 : f1.offset = 1) (t0 : f0.type = 9) (t1 : f1.type = 3)
    (h : DataW.trod enc Tryd.prog W base sp held m t cs = some x) : ∃ k : KK, cs = k.cs := by
  obtain ⟨xs, n, _, rfl, hl, hlen, hf⟩ := DataW.trod_struct hs h
  rw [hC] at hl
  match cs, hl with
  | [c0, c1], _ =>
    have h0 := hf 0 _ rfl
    have h1 := hf 1 _ rfl
    simp [t0, t1, o0, o1, cellsOf9, cellsOf3] at h0 h1 hlen
    have g : ∀ j, j < 2 → ∃ y, xs[j]? = some y := fun j hj => ⟨_, List.getElem?_eq_getElem (by omega)⟩
    obtain ⟨y0, e0⟩ := g 0 (by omega)
    obtain ⟨y1, e1⟩ := g 1 (by omega)
    rw [e0] at h0
    rw [e1] at h1
    obtain ⟨s, rfl, -⟩ := cell_string Tryd.underlying9 h0
    obtain ⟨n, rfl, -⟩ := cell_int Tryd.underlying3 h1
    exact ⟨⟨s, n⟩, rfl⟩
end
set_option maxRecDepth 100000 in
theorem cells_key {H : Type} {enc : TypeId × Value → H} {W : World} {base : Nat} {sp : Nat → Bool} {held : Bool} {m : Nat} {x : DataW H × List MemPlace} {cs : List Value} (h : DataW.trod enc Tryd.prog W base sp held m 23 cs = some x) : ∃ k : KK, cs = k.cs :=
  cells_key' Tryd.underlying23 cellsOf23 rfl rfl rfl rfl h
set_option maxRecDepth 100000 in
theorem open_key {H : Type} {enc : TypeId × Value → H} {W : World} {base : Nat} {sp : Nat → Bool} {held : Bool} {r : Reach} {b0 : Nat} {v : Value} {d : DataW H} {p : List MemPlace} (hv : Value.okWide Tryd.prog W r b0 23 v) (h : DataW.Trod enc Tryd.prog W base sp held 23 v d p) :
    ∃ u : KK, v = u.agg := by
  obtain ⟨cs, rfl, hsz⟩ := okWide_struct Tryd.underlying23 hv
  obtain ⟨fuel, hf⟩ := h
  obtain ⟨u, hc⟩ := cells_key hf
  refine ⟨u, ?_⟩
  have hc' : cs.toList = u.cs := hc
  have : cs = u.cs.toArray := Array.toList_inj.1 (by simpa using hc')
  rw [this]
  rfl
theorem add_plain (b o i : Nat) : (Addr.add ⟨b, o, none⟩ i) = ⟨b, o + i, none⟩ := by
  unfold Addr.add
  by_cases h : i = 0
  · subst h; simp
  · simp [h]
theorem cell_spot' {w : World} {b o : Nat} {sp : Option Nat} {v : Value} (h : w.cell? ⟨b, o, sp⟩ = some v) : sp = none ∧ b < w.heap.size := by
  constructor
  · cases sp with
    | none => rfl
    | some s =>
      simp only [World.cell?] at h
      split at h <;> simp at h
  · rcases Nat.lt_or_ge b w.heap.size with h' | h'
    · exact h'
    · simp [World.cell?, Array.getElem?_eq_none h'] at h
/-- A list of keys, opened. -/
theorem open_row {H : Type} {enc : TypeId × Value → H} {W : World} {v : Value} {d : DataW H} {p : List MemPlace} {A : Option Addr} {n cap : Nat} (hv : v = .slice A n cap) (h : DataW.Trod enc Tryd.prog W 0 (fun _ => true) true 24 v d p) :
    ∃ l : List KK, n = l.length ∧ ReadsK W (.slice A l.length cap) l ∧ (∀ c, Value.slice A l.length cap = .slice none 0 c → c = 0) := by
  subst hv
  obtain ⟨fuel, hf⟩ := h
  rcases Go.Deep.open_slice Tryd.underlying24 hf with ⟨hcs, hx⟩ | ⟨a, len, cap', m, k, D, Pl, hcs, _, hl, hm, hme, hx, hel⟩
  · simp [Value.cells] at hcs
    obtain ⟨rfl, rfl, rfl⟩ := hcs
    exact ⟨[], rfl, .inl ⟨none, 0, rfl, rfl⟩, fun c hc => by cases hc; rfl⟩
  · simp [Value.cells] at hcs
    obtain ⟨rfl, rfl, rfl⟩ := hcs
    have hme' : n ≤ m := by
      simp at hme
      omega
    have each : ∀ i, i < n → ∃ u : KK, W.cells? 0 (a.add (i * 2)) 2 = some u.cs := by
      intro i hi
      obtain ⟨cs', h1, h2⟩ := hel i (by omega)
      obtain ⟨u, rfl⟩ := cells_key h2
      rw [cellsOf23] at h1
      exact ⟨u, h1⟩
    have mk : ∀ k, k ≤ n → ∃ l : List KK, l.length = k ∧ ∀ i (hi : i < l.length), W.cells? 0 (a.add (i * 2)) 2 = some l[i].cs := by
      intro k
      induction k with
      | zero => exact fun _ => ⟨[], rfl, fun i hi => absurd hi (Nat.not_lt_zero i)⟩
      | succ k ih =>
        intro hk
        obtain ⟨l, hl, hl2⟩ := ih (by omega)
        obtain ⟨u, hu2⟩ := each k (by omega)
        refine ⟨l ++ [u], by simp [hl], fun i hi => ?_⟩
        by_cases e : i = k
        · subst e
          have : (l ++ [u])[i] = u := by simp [← hl]
          rw [this]
          exact hu2
        · have hi' : i < l.length := by
            simp at hi
            omega
          have : (l ++ [u])[i] = l[i] := List.getElem_append_left hi'
          rw [this]
          exact hl2 i hi'
    obtain ⟨l, hll, hlc⟩ := mk n (Nat.le_refl _)
    refine ⟨l, hll.symm, ?_, fun c hc => by cases hc⟩
    rcases Nat.eq_zero_or_pos n with h0 | h0
    · exact .inl ⟨some a, _, by rw [hll, h0], List.length_eq_zero_iff.1 (by omega)⟩
    · obtain ⟨b, off, sp⟩ := a
      have h00 := (World.cells?_some (hlc 0 (by omega))).2.2 0 (by omega)
      have e0 : (Addr.add (Addr.add ⟨b, off, sp⟩ (0 * 2)) 0) = ⟨b, off, sp⟩ := by simp [Addr.add]
      rw [e0] at h00
      obtain ⟨rfl, hbl⟩ := cell_spot' (h00.trans rfl)
      refine .inr ⟨b, off, _, rfl, hbl, fun j hj t u hu => ?_⟩
      have ht : t < 2 := by
        have := (List.getElem?_eq_some_iff.1 hu).1
        rwa [kcs_length] at this
      have h1 := (World.cells?_some (hlc j hj)).2.2 t (by omega)
      rw [add_plain, add_plain] at h1
      rw [h1]
      exact hu
end Go.Proofs.YtmlofbgnoaobfaaDoor
