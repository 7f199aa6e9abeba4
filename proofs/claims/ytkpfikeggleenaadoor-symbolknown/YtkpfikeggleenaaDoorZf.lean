import Derived.Test.YtkpfikeggleenaaDoorZe
namespace Go.Proofs.YtkpfikeggleenaaDoor
open Go Go.Proofs Go.Maps Go.RowKit
set_option linter.unusedSimpArgs false
set_option linter.unusedVariables false
set_option maxHeartbeats 1000000
/-- A list of texts, opened. -/
theorem open_rowT {H : Type} {enc : TypeId × Value → H} {W : World} {v : Value} {d : DataW H} {p : List MemPlace} {A : Option Addr} {n cap : Nat} (hv : v = .slice A n cap) (h : DataW.Trod enc Tryd.prog W 0 (fun _ => true) true 33 v d p) : ∃ l : List ByteArray, n = l.length ∧ ReadsT W A l := by
  subst hv
  obtain ⟨fuel, hf⟩ := h
  rcases Go.Deep.open_slice Tryd.underlying33 hf with ⟨hcs, hx⟩ | ⟨a, len, cap', m, k, D, Pl, hcs, _, hl, hm, hme, hx, hel⟩
  · simp [Value.cells] at hcs
    obtain ⟨rfl, rfl, rfl⟩ := hcs
    exact ⟨[], rfl, fun j u hu => by simp at hu⟩
  · simp [Value.cells] at hcs
    obtain ⟨rfl, rfl, rfl⟩ := hcs
    have hme' : n ≤ m := by
      simp at hme
      omega
    have each : ∀ i, i < n → ∃ u : ByteArray, OkS u ∧ W.cells? 0 (a.add (i * 1)) 1 = some [Value.string u] := by
      intro i hi
      obtain ⟨cs', h1, h2⟩ := hel i (by omega)
      rw [cellsOf9] at h1
      have hlen := (World.cells?_some h1).2.1
      match cs', hlen, h1, h2 with
      | [], hl, _, _ => simp at hl
      | [c], _, h1, h2 =>
        obtain ⟨s, rfl, hs, -⟩ := cell_string Tryd.underlying9 h2
        exact ⟨s, hs, h1⟩
      | a :: b :: r, hl, _, _ => simp at hl
    have mk : ∀ k, k ≤ n → ∃ l : List ByteArray, l.length = k ∧ ∀ i u, l[i]? = some u → OkS u ∧ W.cells? 0 (a.add (i * 1)) 1 = some [Value.string u] := by
      intro k
      induction k with
      | zero => exact fun _ => ⟨[], rfl, fun i u hu => by simp at hu⟩
      | succ k ih =>
        intro hk
        obtain ⟨l, hl, hl2⟩ := ih (by omega)
        obtain ⟨u, hu2⟩ := each k (by omega)
        refine ⟨l ++ [u], by simp [hl], fun i u' hu' => ?_⟩
        rcases Nat.lt_or_ge i l.length with h1 | h1
        · rw [List.getElem?_append_left h1] at hu'
          exact hl2 i u' hu'
        · rw [List.getElem?_append_right h1] at hu'
          have h3 := (List.getElem?_eq_some_iff.1 hu').1
          have h4 : i = k := by simp at h3; omega
          subst h4
          rw [hl, Nat.sub_self] at hu'
          obtain rfl : u = u' := by simpa using hu'
          exact hu2
    obtain ⟨l, hll, hlc⟩ := mk n (Nat.le_refl _)
    refine ⟨l, hll.symm, fun j u hu => ⟨(hlc j u hu).1, ?_⟩⟩
    have h1 := (World.cells?_some (hlc j u hu).2).2.2
    obtain ⟨b, off, sp⟩ := a
    have hl0 : 0 < l.length := Nat.lt_of_le_of_lt (Nat.zero_le _) (List.getElem?_eq_some_iff.1 hu).1
    have h00 := (World.cells?_some (hlc 0 l[0] (List.getElem?_eq_getElem hl0)).2).2.2 0 (by omega)
    have e0 : (Addr.add (Addr.add ⟨b, off, sp⟩ (0 * 1)) 0) = ⟨b, off, sp⟩ := by simp [Addr.add]
    rw [e0] at h00
    have hsp := cell_spot' (h00.trans rfl)
    obtain ⟨rfl, hb⟩ := hsp
    have h2 := h1 0 (by omega)
    rw [add_plain, add_plain] at h2
    exact ⟨b, off, rfl, hb, h2⟩
end Go.Proofs.YtkpfikeggleenaaDoor
