import Derived.Test.YtmfhjbmgbbkicaaDoorHn
import Derived.Test.YtmfhjbmgbbkicaaDoorVo
import Derived.Deep.Slices
import Derived.SizedLaws
namespace Go.Proofs.YtmfhjbmgbbkicaaDoor
open Go.WideShapes Go.ChangeShapes Go Go.Proofs Go.Maps Go.RowKit FM
set_option linter.unusedSimpArgs false
set_option linter.unusedVariables false
set_option maxHeartbeats 1000000
theorem add_plain (b o i : Nat) : (Addr.add ⟨b, o, none⟩ i) = ⟨b, o + i, none⟩ := by
  unfold Addr.add
  by_cases h : i = 0
  · subst h; simp
  · simp [h]
theorem cell_spot' {w : World} {b o : Nat} {sp : Option Nat} {v : Value} (h : w.cell? ⟨b, o, sp⟩ = some v) : sp = none ∧ b < w.heap.size := by
  constructor
  · cases sp with
    | none => rfl
    | some s =>
      simp only [World.cell?] at h
      split at h <;> simp at h
  · rcases Nat.lt_or_ge b w.heap.size with h' | h'
    · exact h'
    · simp [World.cell?, Array.getElem?_eq_none h'] at h
/-- Rows of equal length, opened one by one. -/
theorem rows_of {α : Type} {f : α → List Value} {k : Nat} (hk : ∀ a, (f a).length = k) (h0 : 0 < k) {Pr : α → Prop} {W : World} {a : Addr} {n : Nat} (each : ∀ i, i < n → ∃ u : α, Pr u ∧ W.cells? 0 (a.add (i * k)) k = some (f u)) :
    ∃ l : List α, l.length = n ∧ ∀ (j : Nat) (u : α), l[j]? = some u → Pr u ∧ ∃ b off, a = ⟨b, off, none⟩ ∧ b < W.heap.size ∧ W.rangeAt b (off + j * k) (f u) := by
  have mk : ∀ q, q ≤ n → ∃ l : List α, l.length = q ∧ ∀ (i : Nat) (u : α), l[i]? = some u → Pr u ∧ W.cells? 0 (a.add (i * k)) k = some (f u) := by
    intro q
    induction q with
    | zero => exact fun _ => ⟨[], rfl, fun i u hu => by simp at hu⟩
    | succ q ih =>
      intro hq
      obtain ⟨l, hl, hl2⟩ := ih (by omega)
      obtain ⟨u, hu2⟩ := each q (by omega)
      refine ⟨l ++ [u], by simp [hl], fun i u' hu' => ?_⟩
      rcases Nat.lt_or_ge i l.length with h1 | h1
      · rw [List.getElem?_append_left h1] at hu'
        exact hl2 i u' hu'
      · rw [List.getElem?_append_right h1] at hu'
        have h3 := (List.getElem?_eq_some_iff.1 hu').1
        have h4 : i = q := by simp at h3; omega
        subst h4
        rw [hl, Nat.sub_self] at hu'
        obtain rfl : u = u' := by simpa using hu'
        exact hu2
  obtain ⟨l, hll, hlc⟩ := mk n (Nat.le_refl _)
  refine ⟨l, hll, fun j u hu => ⟨(hlc j u hu).1, ?_⟩⟩
  have h1 := (World.cells?_some (hlc j u hu).2).2.2
  obtain ⟨b, off, sp⟩ := a
  have hl0 : 0 < l.length := Nat.lt_of_le_of_lt (Nat.zero_le _) (List.getElem?_eq_some_iff.1 hu).1
  have h00 := (World.cells?_some (hlc 0 l[0] (List.getElem?_eq_getElem hl0)).2).2.2 0 h0
  have e0 : (Addr.add (Addr.add ⟨b, off, sp⟩ (0 * k)) 0) = ⟨b, off, sp⟩ := by simp [Addr.add]
  have hlen : 0 < (f l[0]).length := by rw [hk]; exact h0
  rw [e0, List.getElem?_eq_getElem hlen] at h00
  obtain ⟨rfl, hb⟩ := cell_spot' h00
  refine ⟨b, off, rfl, hb, fun t v hv => ?_⟩
  have ht : t < k := by
    have := (List.getElem?_eq_some_iff.1 hv).1
    rwa [hk] at this
  have h2 := h1 t ht
  rw [add_plain, add_plain] at h2
  rw [h2]
  exact hv
/-- A list of values, opened. -/
theorem open_rowV {H : Type} {enc : TypeId × Value → H} {W : World} {v : Value} {d : DataW H} {p : List MemPlace} {A : Option Addr} {n cap : Nat} (hv : v = .slice A n cap) (h : DataW.Trod enc Tryd.prog W 0 (fun _ => true) true 22 v d p) : ∃ l : List VV, n = l.length ∧ ReadsV W A l := by
  subst hv
  obtain ⟨fuel, hf⟩ := h
  rcases Go.Deep.open_slice Tryd.underlying22 hf with ⟨hcs, hx⟩ | ⟨a, len, cap', mm, k, D, Pl, hcs, _, hl, hm, hme, hx, hel⟩
  · simp [Value.cells] at hcs
    obtain ⟨rfl, rfl, rfl⟩ := hcs
    exact ⟨[], rfl, fun j u hu => by simp at hu⟩
  · simp [Value.cells] at hcs
    obtain ⟨rfl, rfl, rfl⟩ := hcs
    have hme' : n ≤ mm := by
      simp at hme
      omega
    have each : ∀ i, i < n → ∃ u : VV, True ∧ W.cells? 0 (a.add (i * 5)) 5 = some u.cs := by
      intro i hi
      obtain ⟨cs', h1, h2⟩ := hel i (by omega)
      obtain ⟨u, rfl, _, _⟩ := cells_value h2
      rw [cellsOf24] at h1
      exact ⟨u, trivial, h1⟩
    obtain ⟨l, hll, hlr⟩ := rows_of vcs_length (by omega) each
    refine ⟨l, hll.symm, fun j u hu => ?_⟩
    obtain ⟨_, b, off, rfl, h6, h7⟩ := hlr j u hu
    exact ⟨b, off, rfl, h6, h7⟩
end Go.Proofs.YtmfhjbmgbbkicaaDoor
