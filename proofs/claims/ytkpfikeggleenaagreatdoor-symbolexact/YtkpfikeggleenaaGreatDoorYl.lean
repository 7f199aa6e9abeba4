import Derived.Test.YtkpfikeggleenaaGreatDoorYk
import Derived.Test.YtkpfikeggleenaaGreatDoorVo
import Derived.Lib.LaidU8
import Derived.PinnedBridge
import Derived.Deep.Slices
namespace Go.Proofs.YtkpfikeggleenaaGreatDoor
open Go Go.Proofs Go.Maps Go.RowKit
set_option linter.unusedSimpArgs false
set_option linter.unusedVariables false
set_option maxHeartbeats 1000000
/-- A table of texts, as a variable's datum says. -/
theorem strs_of_reads {name : String} {g : Nat} {L : List ByteArray} {w : World} (hn : Tryz.prog.globalNamed name = some g) (hy : (Tryz.prog.globals[g]?).map (·.type) = some 74) (h : Lib.VarReads Tryz.prog w name (.agg (L.map fun s => .lit (.string s.data.toList)))) (hL : L.length = 13) : w.rangeAt g 0 (L.map Value.string) := by
  obtain ⟨g', t, cs, fuel, p, hg, hty, hvar, hd⟩ := h
  obtain rfl := Option.some.inj (hn.symm.trans hg)
  obtain rfl := Option.some.inj (hy.symm.trans hty)
  intro j v hv
  have hj : j < 13 := by
    have := (List.getElem?_eq_some_iff.1 hv).1
    simpa [hL] using this
  obtain ⟨fuel', d, q, hdi, he⟩ := Lib.array_elem Tryz.underlying74 hd j hj
  rw [cellsOf9, Nat.mul_one] at he
  have hlen : ((cs.toList.drop j).take 1).length ≤ 1 := by simp; omega
  match hc : (cs.toList.drop j).take 1, he, hlen with
  | [], he, _ =>
    cases fuel' with
    | zero => simp [DataW.trod] at he
    | succ f => simp [DataW.trod, Tryz.underlying9] at he
  | [c], he, _ =>
    obtain ⟨s, rfl, -, hx⟩ := cell_string Tryz.underlying9 he
    have e1 : d = .lit (.string s.data.toList) := congrArg Prod.fst hx
    subst e1
    rw [List.getElem?_map] at hdi
    obtain ⟨s', hs', e⟩ := Option.map_eq_some_iff.1 hdi
    have e2 : s' = s := by
      have : s'.data.toList = s.data.toList := by simpa using e
      cases s'; cases s
      simpa using this
    subst e2
    rw [List.getElem?_map, hs'] at hv
    obtain rfl := Option.some.inj hv
    have h0 := congrArg (·[0]?) hc
    simp only [List.getElem?_take, List.getElem?_drop] at h0
    have := World.var?_cell hg hvar j
    rw [Nat.zero_add, this, ← Array.getElem?_toList]
    simpa using h0
  | a :: b :: r, _, hl => simp at hl
theorem tabs_size {w : World} (h : Lib.Utf8Tabs 3 4 w) : 5 ≤ w.heap.size := by
  have h1 := (h.2 0 (by decide)).1
  rcases Nat.lt_or_ge 4 w.heap.size with h2 | h2
  · omega
  · simp [World.cell?, Array.getElem?_eq_none h2] at h1
theorem add_plain (b o i : Nat) : (Addr.add ⟨b, o, none⟩ i) = ⟨b, o + i, none⟩ := by
  unfold Addr.add
  by_cases h : i = 0
  · subst h; simp
  · simp [h]
theorem cell_spot {w : World} {b o : Nat} {sp : Option Nat} {v : Value} (h : w.cell? ⟨b, o, sp⟩ = some v) : sp = none := by
  cases sp with
  | none => rfl
  | some s =>
    simp only [World.cell?] at h
    split at h <;> simp at h
theorem cell_spot' {w : World} {b o : Nat} {sp : Option Nat} {v : Value} (h : w.cell? ⟨b, o, sp⟩ = some v) : sp = none ∧ b < w.heap.size := by
  refine ⟨cell_spot h, ?_⟩
  rcases Nat.lt_or_ge b w.heap.size with h' | h'
  · exact h'
  · simp [World.cell?, Array.getElem?_eq_none h'] at h
end Go.Proofs.YtkpfikeggleenaaGreatDoor
