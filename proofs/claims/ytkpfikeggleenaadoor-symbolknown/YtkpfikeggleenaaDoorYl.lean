import Derived.Test.YtkpfikeggleenaaDoorYk
import Derived.Test.YtkpfikeggleenaaDoorVo
import Derived.Lib.LaidU8
import Derived.PinnedBridge
import Derived.Deep.Slices
namespace Go.Proofs.YtkpfikeggleenaaDoor
open Go Go.Proofs Go.Maps Go.RowKit
set_option linter.unusedSimpArgs false
set_option linter.unusedVariables false
set_option maxHeartbeats 1000000
/-- A table of texts, as a variable's datum says. -/
theorem strs_of_reads {name : String} {g : Nat} {L : List ByteArray} {w : World} (hn : Tryd.prog.globalNamed name = some g) (hy : (Tryd.prog.globals[g]?).map (·.type) = some 58) (h : Lib.VarReads Tryd.prog w name (.agg (L.map fun s => .lit (.string s.data.toList)))) (hL : L.length = 13) : w.rangeAt g 0 (L.map Value.string) := by
  obtain ⟨g', t, cs, fuel, p, hg, hty, hvar, hd⟩ := h
  obtain rfl := Option.some.inj (hn.symm.trans hg)
  obtain rfl := Option.some.inj (hy.symm.trans hty)
  intro j v hv
  have hj : j < 13 := by
    have := (List.getElem?_eq_some_iff.1 hv).1
    simpa [hL] using this
  obtain ⟨fuel', d, q, hdi, he⟩ := Lib.array_elem Tryd.underlying58 hd j hj
  rw [cellsOf9, Nat.mul_one] at he
  have hlen : ((cs.toList.drop j).take 1).length ≤ 1 := by simp; omega
  match hc : (cs.toList.drop j).take 1, he, hlen with
  | [], he, _ =>
    cases fuel' with
    | zero => simp [DataW.trod] at he
    | succ f => simp [DataW.trod, Tryd.underlying9] at he
  | [c], he, _ =>
    obtain ⟨s, rfl, -, hx⟩ := cell_string Tryd.underlying9 he
    have e1 : d = .lit (.string s.data.toList) := congrArg Prod.fst hx
    subst e1
    rw [List.getElem?_map] at hdi
    obtain ⟨s', hs', e⟩ := Option.map_eq_some_iff.1 hdi
    have e2 : s' = s := by
      have : s'.data.toList = s.data.toList := by simpa using e
      cases s'; cases s
      simpa using this
    subst e2
    rw [List.getElem?_map, hs'] at hv
    obtain rfl := Option.some.inj hv
    have h0 := congrArg (·[0]?) hc
    simp only [List.getElem?_take, List.getElem?_drop] at h0
    have := World.var?_cell hg hvar j
    rw [Nat.zero_add, this, ← Array.getElem?_toList]
    simpa using h0
  | a :: b :: r, _, hl => simp at hl
theorem tabs_size {w : World} (h : Lib.Utf8Tabs 3 4 w) : 5 ≤ w.heap.size := by
  have h1 := (h.2 0 (by decide)).1
  rcases Nat.lt_or_ge 4 w.heap.size with h2 | h2
  · omega
  · simp [World.cell?, Array.getElem?_eq_none h2] at h1
theorem add_plain (b o i : Nat) : (Addr.add ⟨b, o, none⟩ i) = ⟨b, o + i, none⟩ := by
  unfold Addr.add
  by_cases h : i = 0
  · subst h; simp
  · simp [h]
theorem cell_spot {w : World} {b o : Nat} {sp : Option Nat} {v : Value} (h : w.cell? ⟨b, o, sp⟩ = some v) : sp = none := by
  cases sp with
  | none => rfl
  | some s =>
    simp only [World.cell?] at h
    split at h <;> simp at h
theorem cell_spot' {w : World} {b o : Nat} {sp : Option Nat} {v : Value} (h : w.cell? ⟨b, o, sp⟩ = some v) : sp = none ∧ b < w.heap.size := by
  refine ⟨cell_spot h, ?_⟩
  rcases Nat.lt_or_ge b w.heap.size with h' | h'
  · exact h'
  · simp [World.cell?, Array.getElem?_eq_none h'] at h
/-- A list of values, opened. -/
theorem open_row {H : Type} {enc : TypeId × Value → H} {W : World} {v : Value} {d : DataW H} {p : List MemPlace} {A : Option Addr} {n cap : Nat} (hv : v = .slice A n cap) (h : DataW.Trod enc Tryd.prog W 0 (fun _ => true) true 34 v d p) : ∃ l : List VV, n = l.length ∧ ReadsV W A l := by
  subst hv
  obtain ⟨fuel, hf⟩ := h
  rcases Go.Deep.open_slice Tryd.underlying34 hf with ⟨hcs, hx⟩ | ⟨a, len, cap', m, k, D, Pl, hcs, _, hl, hm, hme, hx, hel⟩
  · simp [Value.cells] at hcs
    obtain ⟨rfl, rfl, rfl⟩ := hcs
    exact ⟨[], rfl, fun j u hu => by simp at hu⟩
  · simp [Value.cells] at hcs
    obtain ⟨rfl, rfl, rfl⟩ := hcs
    have hme' : n ≤ m := by
      simp at hme
      omega
    have each : ∀ i, i < n → ∃ u : VV, W.cells? 0 (a.add (i * 5)) 5 = some u.cs := by
      intro i hi
      obtain ⟨cs', h1, h2⟩ := hel i (by omega)
      obtain ⟨u, rfl, hx, _⟩ := cells_value h2
      rw [cellsOf24] at h1
      exact ⟨u, h1⟩
    have mk : ∀ k, k ≤ n → ∃ l : List VV, l.length = k ∧ ∀ i u, l[i]? = some u → W.cells? 0 (a.add (i * 5)) 5 = some u.cs := by
      intro k
      induction k with
      | zero => exact fun _ => ⟨[], rfl, fun i u hu => by simp at hu⟩
      | succ k ih =>
        intro hk
        obtain ⟨l, hl, hl2⟩ := ih (by omega)
        obtain ⟨u, hu2⟩ := each k (by omega)
        refine ⟨l ++ [u], by simp [hl], fun i u' hu' => ?_⟩
        rcases Nat.lt_or_ge i l.length with h1 | h1
        · rw [List.getElem?_append_left h1] at hu'
          exact hl2 i u' hu'
        · rw [List.getElem?_append_right h1] at hu'
          have h3 := (List.getElem?_eq_some_iff.1 hu').1
          have h4 : i = k := by simp at h3; omega
          subst h4
          rw [hl, Nat.sub_self] at hu'
          obtain rfl : u = u' := by simpa using hu'
          exact hu2
    obtain ⟨l, hll, hlc⟩ := mk n (Nat.le_refl _)
    refine ⟨l, hll.symm, fun j u hu => ?_⟩
    have h1 := (World.cells?_some (hlc j u hu)).2.2
    obtain ⟨b, off, sp⟩ := a
    have hl0 : 0 < l.length := Nat.lt_of_le_of_lt (Nat.zero_le _) (List.getElem?_eq_some_iff.1 hu).1
    have h00 := (World.cells?_some (hlc 0 l[0] (List.getElem?_eq_getElem hl0))).2.2 0 (by omega)
    have e0 : (Addr.add (Addr.add ⟨b, off, sp⟩ (0 * 5)) 0) = ⟨b, off, sp⟩ := by simp [Addr.add]
    rw [e0] at h00
    have hsp := cell_spot' (h00.trans rfl)
    obtain ⟨rfl, hb⟩ := hsp
    refine ⟨b, off, rfl, hb, fun t v hv => ?_⟩
    have ht : t < 5 := by
      have := (List.getElem?_eq_some_iff.1 hv).1
      simpa [vcs_length] using this
    have h2 := h1 t ht
    rw [add_plain, add_plain] at h2
    rw [h2]
    exact hv
end Go.Proofs.YtkpfikeggleenaaDoor
